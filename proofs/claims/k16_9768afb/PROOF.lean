import PyProof.Rows.All
import Wide.All
import OpenK.AllK
import Wide.FinOn
import HandS.Base
import HandS.Words
import HandS.More
import HandS.Head2
import KE.KNestM
import HandS.Call
import HandS.List
import HandS.Comp
import HandS.Ends
import HandS.Dict
import HandS.Iter
import HandS.Text
import HandS.WordsList
import HandS.WordsDict
import HandS.IsInst
import HandS.Zip
import HandS.Conv
import HandS.Walk
import HandS.Style
import HandS.TupAny
import HandS.TupMul
import HandS.EndBits
import HandS.Codes
import KE.GoesMore
import HandS.SortKw
import HandS.TupSets
import KE.KDictDisplayH
import KE.DatumOrd
import HandS.SortOrd
import HandS.Wide
import PyProof.StrLawsRepr
import HandS.Exc
import HandS.ExcOwn
import HandS.WordsExc
import HandS.ExcIs
import KE.GoesZip
import HandS.Strs
import KE.SortData
import KE.KDictPairs
import HandS.Lambda
import KE.DataMinKey
import HandS.EndTab
import KE.KNest
import KE.DataMinMax
import HandS.Defaults
import PyProof.Rows.StrMeet
import PyProof.EqKinds
import PyProof.NeKinds
import KE.DataCmp
import HandS.Star
import HandS.CallLocal
import HandS.TupLen
import HandS.SlotsOwn
import KE.KExcInit
import KE.KExcIs
import HandS.CallSlots
import HandS.Deep
import HandS.Rev
import PySem.Challenge.RW_opencalls_k16_calls_heard
set_option Elab.async false
set_option linter.all false
set_option maxRecDepth 100000
/-! the objects that the top leaves, as far as they are asked for; the top's run -/
namespace OCR
open PySem PySem.Spec PyProof.Rows L2
def topR (i : Nat) : Stmt := PySem.Challenge.pw_opencalls_k16_calls_heard.main.body.getD i (.Pass ⟨0, 0, 0, 0⟩)
def K0 (P : PySem.Params) : PySem.W.Frag :=
  (nat_lit 2, ⟨.none, none, (.dict (List.toArray ([])) 0), #[]⟩) ::
  (nat_lit 3, ⟨(.type "dict"), none, (.dict (List.toArray (⟨PySem.PyData.keyHash P (PySem.Str.ofString "__name__"), .str (PySem.Str.ofString "__name__") 165, (.str (PySem.Str.ofString "law_opencalls_k16_calls_heard") 1148)⟩ :: ⟨PySem.PyData.keyHash P (PySem.Str.ofString "__doc__"), .str (PySem.Str.ofString "__doc__") 166, .none⟩ :: ⟨PySem.PyData.keyHash P (PySem.Str.ofString "__package__"), .str (PySem.Str.ofString "__package__") 167, .none⟩ :: ⟨PySem.PyData.keyHash P (PySem.Str.ofString "__loader__"), .str (PySem.Str.ofString "__loader__") 168, (.builtin "__main__.__loader__#opaque")⟩ :: ⟨PySem.PyData.keyHash P (PySem.Str.ofString "__spec__"), .str (PySem.Str.ofString "__spec__") 169, .none⟩ :: ⟨PySem.PyData.keyHash P (PySem.Str.ofString "__annotations__"), .str (PySem.Str.ofString "__annotations__") 170, (.ref 6)⟩ :: ⟨PySem.PyData.keyHash P (PySem.Str.ofString "__builtins__"), .str (PySem.Str.ofString "__builtins__") 171, (.ref 4)⟩ :: ⟨PySem.PyData.keyHash P (PySem.Str.ofString "__file__"), .str (PySem.Str.ofString "__file__") 173, (.str (PySem.Str.ofString "/claim/cut.py") 172)⟩ :: ⟨PySem.PyData.keyHash P (PySem.Str.ofString "__cached__"), .str (PySem.Str.ofString "__cached__") 174, .none⟩ :: ⟨PySem.PyData.keyHash P (PySem.Str.ofString "_wall"), .str (PySem.Str.ofString "_wall") 193, (.ref 21)⟩ :: ⟨PySem.PyData.keyHash P (PySem.Str.ofString "CallError"), .str (PySem.Str.ofString "CallError") 213, (.ref 31)⟩ :: ⟨PySem.PyData.keyHash P (PySem.Str.ofString "NoRow"), .str (PySem.Str.ofString "NoRow") 229, (.ref 44)⟩ :: ⟨PySem.PyData.keyHash P (PySem.Str.ofString "NotKnown"), .str (PySem.Str.ofString "NotKnown") 254, (.ref 63)⟩ :: ⟨PySem.PyData.keyHash P (PySem.Str.ofString "NoGroup"), .str (PySem.Str.ofString "NoGroup") 270, (.ref 75)⟩ :: ⟨PySem.PyData.keyHash P (PySem.Str.ofString "Full"), .str (PySem.Str.ofString "Full") 286, (.ref 87)⟩ :: ⟨PySem.PyData.keyHash P (PySem.Str.ofString "NoPlace"), .str (PySem.Str.ofString "NoPlace") 311, (.ref 106)⟩ :: ⟨PySem.PyData.keyHash P (PySem.Str.ofString "NoTurn"), .str (PySem.Str.ofString "NoTurn") 327, (.ref 118)⟩ :: ⟨PySem.PyData.keyHash P (PySem.Str.ofString "NoName"), .str (PySem.Str.ofString "NoName") 352, (.ref 137)⟩ :: ⟨PySem.PyData.keyHash P (PySem.Str.ofString "Taken"), .str (PySem.Str.ofString "Taken") 377, (.ref 156)⟩ :: ⟨PySem.PyData.keyHash P (PySem.Str.ofString "Few"), .str (PySem.Str.ofString "Few") 393, (.ref 168)⟩ :: ⟨PySem.PyData.keyHash P (PySem.Str.ofString "NothingBack"), .str (PySem.Str.ofString "NothingBack") 409, (.ref 180)⟩ :: ⟨PySem.PyData.keyHash P (PySem.Str.ofString "Long"), .str (PySem.Str.ofString "Long") 425, (.ref 192)⟩ :: ⟨PySem.PyData.keyHash P (PySem.Str.ofString "Busy"), .str (PySem.Str.ofString "Busy") 441, (.ref 204)⟩ :: ⟨PySem.PyData.keyHash P (PySem.Str.ofString "NoHand"), .str (PySem.Str.ofString "NoHand") 468, (.ref 223)⟩ :: ⟨PySem.PyData.keyHash P (PySem.Str.ofString "NoMoment"), .str (PySem.Str.ofString "NoMoment") 495, (.ref 243)⟩ :: ⟨PySem.PyData.keyHash P (PySem.Str.ofString "LETTERS"), .str (PySem.Str.ofString "LETTERS") 499, (.str (PySem.Str.ofString "abcdefghijklmnopqrstuvwxyz") 498)⟩ :: ⟨PySem.PyData.keyHash P (PySem.Str.ofString "is_name"), .str (PySem.Str.ofString "is_name") 505, (.ref 251)⟩ :: ⟨PySem.PyData.keyHash P (PySem.Str.ofString "is_rising"), .str (PySem.Str.ofString "is_rising") 511, (.ref 256)⟩ :: ⟨PySem.PyData.keyHash P (PySem.Str.ofString "are_names"), .str (PySem.Str.ofString "are_names") 517, (.ref 261)⟩ :: ⟨PySem.PyData.keyHash P (PySem.Str.ofString "is_number"), .str (PySem.Str.ofString "is_number") 526, (.ref 268)⟩ :: ⟨PySem.PyData.keyHash P (PySem.Str.ofString "is_rest"), .str (PySem.Str.ofString "is_rest") 534, (.ref 275)⟩ :: ⟨PySem.PyData.keyHash P (PySem.Str.ofString "contrary"), .str (PySem.Str.ofString "contrary") 543, (.ref 282)⟩ :: ⟨PySem.PyData.keyHash P (PySem.Str.ofString "is_row"), .str (PySem.Str.ofString "is_row") 551, (.ref 287)⟩ :: ⟨PySem.PyData.keyHash P (PySem.Str.ofString "added"), .str (PySem.Str.ofString "added") 557, (.ref 292)⟩ :: ⟨PySem.PyData.keyHash P (PySem.Str.ofString "times"), .str (PySem.Str.ofString "times") 563, (.ref 297)⟩ :: ⟨PySem.PyData.keyHash P (PySem.Str.ofString "check_hand"), .str (PySem.Str.ofString "check_hand") 573, (.ref 304)⟩ :: ⟨PySem.PyData.keyHash P (PySem.Str.ofString "check_hands"), .str (PySem.Str.ofString "check_hands") 583, (.ref 311)⟩ :: ⟨PySem.PyData.keyHash P (PySem.Str.ofString "check_row"), .str (PySem.Str.ofString "check_row") 592, (.ref 318)⟩ :: ⟨PySem.PyData.keyHash P (PySem.Str.ofString "led"), .str (PySem.Str.ofString "led") 606, (.ref 325)⟩ :: ⟨PySem.PyData.keyHash P (PySem.Str.ofString "is_noughts"), .str (PySem.Str.ofString "is_noughts") 614, (.ref 330)⟩ :: ⟨PySem.PyData.keyHash P (PySem.Str.ofString "first_place"), .str (PySem.Str.ofString "first_place") 623, (.ref 337)⟩ :: ⟨PySem.PyData.keyHash P (PySem.Str.ofString "cleared"), .str (PySem.Str.ofString "cleared") 633, (.ref 344)⟩ :: ⟨PySem.PyData.keyHash P (PySem.Str.ofString "left_of"), .str (PySem.Str.ofString "left_of") 643, (.ref 351)⟩ :: ⟨PySem.PyData.keyHash P (PySem.Str.ofString "widened"), .str (PySem.Str.ofString "widened") 649, (.ref 356)⟩ :: ⟨PySem.PyData.keyHash P (PySem.Str.ofString "room_of"), .str (PySem.Str.ofString "room_of") 660, (.ref 363)⟩ :: ⟨PySem.PyData.keyHash P (PySem.Str.ofString "within"), .str (PySem.Str.ofString "within") 669, (.ref 370)⟩ :: ⟨PySem.PyData.keyHash P (PySem.Str.ofString "needed"), .str (PySem.Str.ofString "needed") 684, (.ref 377)⟩ :: ⟨PySem.PyData.keyHash P (PySem.Str.ofString "Moment"), .str (PySem.Str.ofString "Moment") 721, (.ref 394)⟩ :: ⟨PySem.PyData.keyHash P (PySem.Str.ofString "names_at"), .str (PySem.Str.ofString "names_at") 727, (.ref 403)⟩ :: ⟨PySem.PyData.keyHash P (PySem.Str.ofString "heard_at"), .str (PySem.Str.ofString "heard_at") 738, (.ref 410)⟩ :: ⟨PySem.PyData.keyHash P (PySem.Str.ofString "known_at"), .str (PySem.Str.ofString "known_at") 746, (.ref 417)⟩ :: ⟨PySem.PyData.keyHash P (PySem.Str.ofString "stand_at"), .str (PySem.Str.ofString "stand_at") 752, (.ref 422)⟩ :: ⟨PySem.PyData.keyHash P (PySem.Str.ofString "are_first_rows"), .str (PySem.Str.ofString "are_first_rows") 760, (.ref 427)⟩ :: ⟨PySem.PyData.keyHash P (PySem.Str.ofString "after_call"), .str (PySem.Str.ofString "after_call") 766, (.ref 432)⟩ :: ⟨PySem.PyData.keyHash P (PySem.Str.ofString "after_whisper"), .str (PySem.Str.ofString "after_whisper") 772, (.ref 437)⟩ :: ⟨PySem.PyData.keyHash P (PySem.Str.ofString "after_meet"), .str (PySem.Str.ofString "after_meet") 778, (.ref 442)⟩ :: ⟨PySem.PyData.keyHash P (PySem.Str.ofString "news"), .str (PySem.Str.ofString "news") 784, (.ref 447)⟩ :: ⟨PySem.PyData.keyHash P (PySem.Str.ofString "after_hide"), .str (PySem.Str.ofString "after_hide") 790, (.ref 452)⟩ :: ⟨PySem.PyData.keyHash P (PySem.Str.ofString "longer"), .str (PySem.Str.ofString "longer") 796, (.ref 457)⟩ :: ⟨PySem.PyData.keyHash P (PySem.Str.ofString "after_change"), .str (PySem.Str.ofString "after_change") 802, (.ref 462)⟩ :: ⟨PySem.PyData.keyHash P (PySem.Str.ofString "all_led"), .str (PySem.Str.ofString "all_led") 808, (.ref 467)⟩ :: ⟨PySem.PyData.keyHash P (PySem.Str.ofString "after_come"), .str (PySem.Str.ofString "after_come") 818, (.ref 474)⟩ :: ⟨PySem.PyData.keyHash P (PySem.Str.ofString "after_go"), .str (PySem.Str.ofString "after_go") 824, (.ref 479)⟩ :: ⟨PySem.PyData.keyHash P (PySem.Str.ofString "STEPS"), .str (PySem.Str.ofString "STEPS") 839, (.ref 480)⟩ :: ⟨PySem.PyData.keyHash P (PySem.Str.ofString "after"), .str (PySem.Str.ofString "after") 849, (.ref 487)⟩ :: ⟨PySem.PyData.keyHash P (PySem.Str.ofString "DEEDS"), .str (PySem.Str.ofString "DEEDS") 853, (.int (60) 852)⟩ :: ⟨PySem.PyData.keyHash P (PySem.Str.ofString "Book"), .str (PySem.Str.ofString "Book") 1147, (.ref 722)⟩ :: ⟨PySem.PyData.keyHash P (PySem.Str.ofString "_law_deck"), .str (PySem.Str.ofString "_law_deck") 1155, (.ref 731)⟩ :: ⟨PySem.PyData.keyHash P (PySem.Str.ofString "_law_draw"), .str (PySem.Str.ofString "_law_draw") 1165, (.ref 738)⟩ :: ⟨PySem.PyData.keyHash P (PySem.Str.ofString "_law_names"), .str (PySem.Str.ofString "_law_names") 1171, (.ref 743)⟩ :: ⟨PySem.PyData.keyHash P (PySem.Str.ofString "_law_row"), .str (PySem.Str.ofString "_law_row") 1177, (.ref 748)⟩ :: ⟨PySem.PyData.keyHash P (PySem.Str.ofString "_law_left"), .str (PySem.Str.ofString "_law_left") 1183, (.ref 753)⟩ :: ⟨PySem.PyData.keyHash P (PySem.Str.ofString "_law_plain"), .str (PySem.Str.ofString "_law_plain") 1189, (.ref 758)⟩ :: ⟨PySem.PyData.keyHash P (PySem.Str.ofString "_law_within"), .str (PySem.Str.ofString "_law_within") 1198, (.ref 765)⟩ :: ⟨PySem.PyData.keyHash P (PySem.Str.ofString "_law_made_of"), .str (PySem.Str.ofString "_law_made_of") 1204, (.ref 770)⟩ :: ⟨PySem.PyData.keyHash P (PySem.Str.ofString "_law_begun"), .str (PySem.Str.ofString "_law_begun") 1210, (.ref 775)⟩ :: ⟨PySem.PyData.keyHash P (PySem.Str.ofString "_law_model"), .str (PySem.Str.ofString "_law_model") 1217, (.ref 782)⟩ :: ⟨PySem.PyData.keyHash P (PySem.Str.ofString "_law_rows_by"), .str (PySem.Str.ofString "_law_rows_by") 1227, (.ref 789)⟩ :: ⟨PySem.PyData.keyHash P (PySem.Str.ofString "_law_room_by"), .str (PySem.Str.ofString "_law_room_by") 1235, (.ref 796)⟩ :: ⟨PySem.PyData.keyHash P (PySem.Str.ofString "_law_called"), .str (PySem.Str.ofString "_law_called") 1246, (.ref 803)⟩ :: ⟨PySem.PyData.keyHash P (PySem.Str.ofString "_law_all_right"), .str (PySem.Str.ofString "_law_all_right") 1252, (.ref 808)⟩ :: ⟨PySem.PyData.keyHash P (PySem.Str.ofString "law"), .str (PySem.Str.ofString "law") 1258, (.ref 813)⟩ :: [])) 82), #[]⟩) ::
  (nat_lit 30, ⟨(.type "dict"), none, (.dict (List.toArray (⟨PySem.PyData.keyHash P (PySem.Str.ofString "__module__"), .str (PySem.Str.ofString "__module__") 203, (.str (PySem.Str.ofString "opencalls.errors") 194)⟩ :: ⟨PySem.PyData.keyHash P (PySem.Str.ofString "__firstlineno__"), .str (PySem.Str.ofString "__firstlineno__") 207, (.int (5) 206)⟩ :: ⟨PySem.PyData.keyHash P (PySem.Str.ofString "__static_attributes__"), .str (PySem.Str.ofString "__static_attributes__") 208, (.ref 29)⟩ :: ⟨PySem.PyData.keyHash P (PySem.Str.ofString "__weakref__"), .str (PySem.Str.ofString "__weakref__") 210, (.ref 32)⟩ :: ⟨PySem.PyData.keyHash P (PySem.Str.ofString "__doc__"), .str (PySem.Str.ofString "__doc__") 211, .none⟩ :: [])) 3), #[]⟩) ::
  (nat_lit 31, ⟨(.type "type"), none, (.cls { name := (PySem.Str.ofString "CallError"), bases := [(.type "ValueError")], mro := [(.ref 31), (.type "ValueError"), (.type "Exception"), (.type "BaseException"), (.type "object")], ns := 30, qualname := (PySem.Str.ofString "CallError"), hasDict := true, slotNames := [], subclasses := [(.ref 44), (.ref 63), (.ref 75), (.ref 87), (.ref 106), (.ref 118), (.ref 137), (.ref 156), (.ref 168), (.ref 180), (.ref 192), (.ref 204)], abstract := false, collection := none, hasDel := false }), #[(some (.ref 22)), none, (some (.str (PySem.Str.ofString "CallError") 196)), (some (.str (PySem.Str.ofString "CallError") 204)), (some (.builtin "ValueError.__new__")), (some (.bool true))]⟩) ::
  (nat_lit 32, ⟨(.type "getset_descriptor"), none, (.fields #[(.str (PySem.Str.ofString "__weakref__") 209), (.ref 31), (.builtin "ExceptionGroup.__weakref__"), .none]), #[]⟩) ::
  (nat_lit 43, ⟨(.type "dict"), none, (.dict (List.toArray (⟨PySem.PyData.keyHash P (PySem.Str.ofString "__module__"), .str (PySem.Str.ofString "__module__") 221, (.str (PySem.Str.ofString "opencalls.errors") 194)⟩ :: ⟨PySem.PyData.keyHash P (PySem.Str.ofString "__firstlineno__"), .str (PySem.Str.ofString "__firstlineno__") 225, (.int (7) 224)⟩ :: ⟨PySem.PyData.keyHash P (PySem.Str.ofString "__static_attributes__"), .str (PySem.Str.ofString "__static_attributes__") 226, (.ref 42)⟩ :: ⟨PySem.PyData.keyHash P (PySem.Str.ofString "__doc__"), .str (PySem.Str.ofString "__doc__") 227, .none⟩ :: [])) 2), #[]⟩) ::
  (nat_lit 44, ⟨(.type "type"), none, (.cls { name := (PySem.Str.ofString "NoRow"), bases := [(.ref 31)], mro := [(.ref 44), (.ref 31), (.type "ValueError"), (.type "Exception"), (.type "BaseException"), (.type "object")], ns := 43, qualname := (PySem.Str.ofString "NoRow"), hasDict := true, slotNames := [], subclasses := [], abstract := false, collection := none, hasDel := false }), #[(some (.ref 35)), none, (some (.str (PySem.Str.ofString "NoRow") 214)), (some (.str (PySem.Str.ofString "NoRow") 222)), (some (.builtin "ValueError.__new__")), (some (.bool true))]⟩) ::
  (nat_lit 59, ⟨(.type "code"), none, (.fields #[(.str (PySem.Str.ofString "__init__") 242), (.str (PySem.Str.ofString "NotKnown.__init__") 243), (.str (PySem.Str.ofString "/claim/cut.py") 244), (.int (11) 0), (.int (2) 0), (.int (0) 0), (.int (0) 0), (.int (3) 0), (.ref 54), (.bool true), (.int (181) 0), (.ref 55), .none, (.ref 56), (.ref 57), (.ref 58), (.int (247) 0), (.int (11) 0), (.str (PySem.Str.ofString "/claim/cut.py") 248)]), #[]⟩) ::
  (nat_lit 60, ⟨(.type "function"), none, (.func (PySem.W.fnOf (PySem.Str.ofString "__init__") (PySem.Str.ofString "NotKnown.__init__") (defArgs (inClass (topR 4) 0)) (defBody (inClass (topR 4) 0)) (defScope (inClass (topR 4) 0)) .none .none .none (.str (PySem.Str.ofString "opencalls.errors") 194) none (.ref 59) .none)), #[]⟩) ::
  (nat_lit 62, ⟨(.type "dict"), none, (.dict (List.toArray (⟨PySem.PyData.keyHash P (PySem.Str.ofString "__module__"), .str (PySem.Str.ofString "__module__") 237, (.str (PySem.Str.ofString "opencalls.errors") 194)⟩ :: ⟨PySem.PyData.keyHash P (PySem.Str.ofString "__firstlineno__"), .str (PySem.Str.ofString "__firstlineno__") 241, (.int (9) 240)⟩ :: ⟨PySem.PyData.keyHash P (PySem.Str.ofString "__init__"), .str (PySem.Str.ofString "__init__") 249, (.ref 60)⟩ :: ⟨PySem.PyData.keyHash P (PySem.Str.ofString "__static_attributes__"), .str (PySem.Str.ofString "__static_attributes__") 251, (.ref 61)⟩ :: ⟨PySem.PyData.keyHash P (PySem.Str.ofString "__doc__"), .str (PySem.Str.ofString "__doc__") 252, .none⟩ :: [])) 2), #[]⟩) ::
  (nat_lit 63, ⟨(.type "type"), none, (.cls { name := (PySem.Str.ofString "NotKnown"), bases := [(.ref 31)], mro := [(.ref 63), (.ref 31), (.type "ValueError"), (.type "Exception"), (.type "BaseException"), (.type "object")], ns := 62, qualname := (PySem.Str.ofString "NotKnown"), hasDict := true, slotNames := [], subclasses := [], abstract := false, collection := none, hasDel := false }), #[(some (.ref 47)), none, (some (.str (PySem.Str.ofString "NotKnown") 230)), (some (.str (PySem.Str.ofString "NotKnown") 238)), (some (.builtin "ValueError.__new__")), (some (.bool true))]⟩) ::
  (nat_lit 74, ⟨(.type "dict"), none, (.dict (List.toArray (⟨PySem.PyData.keyHash P (PySem.Str.ofString "__module__"), .str (PySem.Str.ofString "__module__") 262, (.str (PySem.Str.ofString "opencalls.errors") 194)⟩ :: ⟨PySem.PyData.keyHash P (PySem.Str.ofString "__firstlineno__"), .str (PySem.Str.ofString "__firstlineno__") 266, (.int (13) 265)⟩ :: ⟨PySem.PyData.keyHash P (PySem.Str.ofString "__static_attributes__"), .str (PySem.Str.ofString "__static_attributes__") 267, (.ref 73)⟩ :: ⟨PySem.PyData.keyHash P (PySem.Str.ofString "__doc__"), .str (PySem.Str.ofString "__doc__") 268, .none⟩ :: [])) 2), #[]⟩) ::
  (nat_lit 75, ⟨(.type "type"), none, (.cls { name := (PySem.Str.ofString "NoGroup"), bases := [(.ref 31)], mro := [(.ref 75), (.ref 31), (.type "ValueError"), (.type "Exception"), (.type "BaseException"), (.type "object")], ns := 74, qualname := (PySem.Str.ofString "NoGroup"), hasDict := true, slotNames := [], subclasses := [], abstract := false, collection := none, hasDel := false }), #[(some (.ref 66)), none, (some (.str (PySem.Str.ofString "NoGroup") 255)), (some (.str (PySem.Str.ofString "NoGroup") 263)), (some (.builtin "ValueError.__new__")), (some (.bool true))]⟩) ::
  (nat_lit 86, ⟨(.type "dict"), none, (.dict (List.toArray (⟨PySem.PyData.keyHash P (PySem.Str.ofString "__module__"), .str (PySem.Str.ofString "__module__") 278, (.str (PySem.Str.ofString "opencalls.errors") 194)⟩ :: ⟨PySem.PyData.keyHash P (PySem.Str.ofString "__firstlineno__"), .str (PySem.Str.ofString "__firstlineno__") 282, (.int (15) 281)⟩ :: ⟨PySem.PyData.keyHash P (PySem.Str.ofString "__static_attributes__"), .str (PySem.Str.ofString "__static_attributes__") 283, (.ref 85)⟩ :: ⟨PySem.PyData.keyHash P (PySem.Str.ofString "__doc__"), .str (PySem.Str.ofString "__doc__") 284, .none⟩ :: [])) 2), #[]⟩) ::
  (nat_lit 87, ⟨(.type "type"), none, (.cls { name := (PySem.Str.ofString "Full"), bases := [(.ref 31)], mro := [(.ref 87), (.ref 31), (.type "ValueError"), (.type "Exception"), (.type "BaseException"), (.type "object")], ns := 86, qualname := (PySem.Str.ofString "Full"), hasDict := true, slotNames := [], subclasses := [], abstract := false, collection := none, hasDel := false }), #[(some (.ref 78)), none, (some (.str (PySem.Str.ofString "Full") 271)), (some (.str (PySem.Str.ofString "Full") 279)), (some (.builtin "ValueError.__new__")), (some (.bool true))]⟩) ::
  (nat_lit 105, ⟨(.type "dict"), none, (.dict (List.toArray (⟨PySem.PyData.keyHash P (PySem.Str.ofString "__module__"), .str (PySem.Str.ofString "__module__") 294, (.str (PySem.Str.ofString "opencalls.errors") 194)⟩ :: ⟨PySem.PyData.keyHash P (PySem.Str.ofString "__firstlineno__"), .str (PySem.Str.ofString "__firstlineno__") 298, (.int (17) 297)⟩ :: ⟨PySem.PyData.keyHash P (PySem.Str.ofString "__init__"), .str (PySem.Str.ofString "__init__") 306, (.ref 103)⟩ :: ⟨PySem.PyData.keyHash P (PySem.Str.ofString "__static_attributes__"), .str (PySem.Str.ofString "__static_attributes__") 308, (.ref 104)⟩ :: ⟨PySem.PyData.keyHash P (PySem.Str.ofString "__doc__"), .str (PySem.Str.ofString "__doc__") 309, .none⟩ :: [])) 2), #[]⟩) ::
  (nat_lit 106, ⟨(.type "type"), none, (.cls { name := (PySem.Str.ofString "NoPlace"), bases := [(.ref 31)], mro := [(.ref 106), (.ref 31), (.type "ValueError"), (.type "Exception"), (.type "BaseException"), (.type "object")], ns := 105, qualname := (PySem.Str.ofString "NoPlace"), hasDict := true, slotNames := [], subclasses := [], abstract := false, collection := none, hasDel := false }), #[(some (.ref 90)), none, (some (.str (PySem.Str.ofString "NoPlace") 287)), (some (.str (PySem.Str.ofString "NoPlace") 295)), (some (.builtin "ValueError.__new__")), (some (.bool true))]⟩) ::
  (nat_lit 117, ⟨(.type "dict"), none, (.dict (List.toArray (⟨PySem.PyData.keyHash P (PySem.Str.ofString "__module__"), .str (PySem.Str.ofString "__module__") 319, (.str (PySem.Str.ofString "opencalls.errors") 194)⟩ :: ⟨PySem.PyData.keyHash P (PySem.Str.ofString "__firstlineno__"), .str (PySem.Str.ofString "__firstlineno__") 323, (.int (21) 322)⟩ :: ⟨PySem.PyData.keyHash P (PySem.Str.ofString "__static_attributes__"), .str (PySem.Str.ofString "__static_attributes__") 324, (.ref 116)⟩ :: ⟨PySem.PyData.keyHash P (PySem.Str.ofString "__doc__"), .str (PySem.Str.ofString "__doc__") 325, .none⟩ :: [])) 2), #[]⟩) ::
  (nat_lit 118, ⟨(.type "type"), none, (.cls { name := (PySem.Str.ofString "NoTurn"), bases := [(.ref 31)], mro := [(.ref 118), (.ref 31), (.type "ValueError"), (.type "Exception"), (.type "BaseException"), (.type "object")], ns := 117, qualname := (PySem.Str.ofString "NoTurn"), hasDict := true, slotNames := [], subclasses := [], abstract := false, collection := none, hasDel := false }), #[(some (.ref 109)), none, (some (.str (PySem.Str.ofString "NoTurn") 312)), (some (.str (PySem.Str.ofString "NoTurn") 320)), (some (.builtin "ValueError.__new__")), (some (.bool true))]⟩) ::
  (nat_lit 136, ⟨(.type "dict"), none, (.dict (List.toArray (⟨PySem.PyData.keyHash P (PySem.Str.ofString "__module__"), .str (PySem.Str.ofString "__module__") 335, (.str (PySem.Str.ofString "opencalls.errors") 194)⟩ :: ⟨PySem.PyData.keyHash P (PySem.Str.ofString "__firstlineno__"), .str (PySem.Str.ofString "__firstlineno__") 339, (.int (23) 338)⟩ :: ⟨PySem.PyData.keyHash P (PySem.Str.ofString "__init__"), .str (PySem.Str.ofString "__init__") 347, (.ref 134)⟩ :: ⟨PySem.PyData.keyHash P (PySem.Str.ofString "__static_attributes__"), .str (PySem.Str.ofString "__static_attributes__") 349, (.ref 135)⟩ :: ⟨PySem.PyData.keyHash P (PySem.Str.ofString "__doc__"), .str (PySem.Str.ofString "__doc__") 350, .none⟩ :: [])) 2), #[]⟩) ::
  (nat_lit 137, ⟨(.type "type"), none, (.cls { name := (PySem.Str.ofString "NoName"), bases := [(.ref 31)], mro := [(.ref 137), (.ref 31), (.type "ValueError"), (.type "Exception"), (.type "BaseException"), (.type "object")], ns := 136, qualname := (PySem.Str.ofString "NoName"), hasDict := true, slotNames := [], subclasses := [], abstract := false, collection := none, hasDel := false }), #[(some (.ref 121)), none, (some (.str (PySem.Str.ofString "NoName") 328)), (some (.str (PySem.Str.ofString "NoName") 336)), (some (.builtin "ValueError.__new__")), (some (.bool true))]⟩) ::
  (nat_lit 155, ⟨(.type "dict"), none, (.dict (List.toArray (⟨PySem.PyData.keyHash P (PySem.Str.ofString "__module__"), .str (PySem.Str.ofString "__module__") 360, (.str (PySem.Str.ofString "opencalls.errors") 194)⟩ :: ⟨PySem.PyData.keyHash P (PySem.Str.ofString "__firstlineno__"), .str (PySem.Str.ofString "__firstlineno__") 364, (.int (27) 363)⟩ :: ⟨PySem.PyData.keyHash P (PySem.Str.ofString "__init__"), .str (PySem.Str.ofString "__init__") 372, (.ref 153)⟩ :: ⟨PySem.PyData.keyHash P (PySem.Str.ofString "__static_attributes__"), .str (PySem.Str.ofString "__static_attributes__") 374, (.ref 154)⟩ :: ⟨PySem.PyData.keyHash P (PySem.Str.ofString "__doc__"), .str (PySem.Str.ofString "__doc__") 375, .none⟩ :: [])) 2), #[]⟩) ::
  (nat_lit 156, ⟨(.type "type"), none, (.cls { name := (PySem.Str.ofString "Taken"), bases := [(.ref 31)], mro := [(.ref 156), (.ref 31), (.type "ValueError"), (.type "Exception"), (.type "BaseException"), (.type "object")], ns := 155, qualname := (PySem.Str.ofString "Taken"), hasDict := true, slotNames := [], subclasses := [], abstract := false, collection := none, hasDel := false }), #[(some (.ref 140)), none, (some (.str (PySem.Str.ofString "Taken") 353)), (some (.str (PySem.Str.ofString "Taken") 361)), (some (.builtin "ValueError.__new__")), (some (.bool true))]⟩) ::
  (nat_lit 167, ⟨(.type "dict"), none, (.dict (List.toArray (⟨PySem.PyData.keyHash P (PySem.Str.ofString "__module__"), .str (PySem.Str.ofString "__module__") 385, (.str (PySem.Str.ofString "opencalls.errors") 194)⟩ :: ⟨PySem.PyData.keyHash P (PySem.Str.ofString "__firstlineno__"), .str (PySem.Str.ofString "__firstlineno__") 389, (.int (31) 388)⟩ :: ⟨PySem.PyData.keyHash P (PySem.Str.ofString "__static_attributes__"), .str (PySem.Str.ofString "__static_attributes__") 390, (.ref 166)⟩ :: ⟨PySem.PyData.keyHash P (PySem.Str.ofString "__doc__"), .str (PySem.Str.ofString "__doc__") 391, .none⟩ :: [])) 2), #[]⟩) ::
  (nat_lit 168, ⟨(.type "type"), none, (.cls { name := (PySem.Str.ofString "Few"), bases := [(.ref 31)], mro := [(.ref 168), (.ref 31), (.type "ValueError"), (.type "Exception"), (.type "BaseException"), (.type "object")], ns := 167, qualname := (PySem.Str.ofString "Few"), hasDict := true, slotNames := [], subclasses := [], abstract := false, collection := none, hasDel := false }), #[(some (.ref 159)), none, (some (.str (PySem.Str.ofString "Few") 378)), (some (.str (PySem.Str.ofString "Few") 386)), (some (.builtin "ValueError.__new__")), (some (.bool true))]⟩) ::
  (nat_lit 179, ⟨(.type "dict"), none, (.dict (List.toArray (⟨PySem.PyData.keyHash P (PySem.Str.ofString "__module__"), .str (PySem.Str.ofString "__module__") 401, (.str (PySem.Str.ofString "opencalls.errors") 194)⟩ :: ⟨PySem.PyData.keyHash P (PySem.Str.ofString "__firstlineno__"), .str (PySem.Str.ofString "__firstlineno__") 405, (.int (33) 404)⟩ :: ⟨PySem.PyData.keyHash P (PySem.Str.ofString "__static_attributes__"), .str (PySem.Str.ofString "__static_attributes__") 406, (.ref 178)⟩ :: ⟨PySem.PyData.keyHash P (PySem.Str.ofString "__doc__"), .str (PySem.Str.ofString "__doc__") 407, .none⟩ :: [])) 2), #[]⟩) ::
  (nat_lit 180, ⟨(.type "type"), none, (.cls { name := (PySem.Str.ofString "NothingBack"), bases := [(.ref 31)], mro := [(.ref 180), (.ref 31), (.type "ValueError"), (.type "Exception"), (.type "BaseException"), (.type "object")], ns := 179, qualname := (PySem.Str.ofString "NothingBack"), hasDict := true, slotNames := [], subclasses := [], abstract := false, collection := none, hasDel := false }), #[(some (.ref 171)), none, (some (.str (PySem.Str.ofString "NothingBack") 394)), (some (.str (PySem.Str.ofString "NothingBack") 402)), (some (.builtin "ValueError.__new__")), (some (.bool true))]⟩) ::
  (nat_lit 191, ⟨(.type "dict"), none, (.dict (List.toArray (⟨PySem.PyData.keyHash P (PySem.Str.ofString "__module__"), .str (PySem.Str.ofString "__module__") 417, (.str (PySem.Str.ofString "opencalls.errors") 194)⟩ :: ⟨PySem.PyData.keyHash P (PySem.Str.ofString "__firstlineno__"), .str (PySem.Str.ofString "__firstlineno__") 421, (.int (35) 420)⟩ :: ⟨PySem.PyData.keyHash P (PySem.Str.ofString "__static_attributes__"), .str (PySem.Str.ofString "__static_attributes__") 422, (.ref 190)⟩ :: ⟨PySem.PyData.keyHash P (PySem.Str.ofString "__doc__"), .str (PySem.Str.ofString "__doc__") 423, .none⟩ :: [])) 2), #[]⟩) ::
  (nat_lit 192, ⟨(.type "type"), none, (.cls { name := (PySem.Str.ofString "Long"), bases := [(.ref 31)], mro := [(.ref 192), (.ref 31), (.type "ValueError"), (.type "Exception"), (.type "BaseException"), (.type "object")], ns := 191, qualname := (PySem.Str.ofString "Long"), hasDict := true, slotNames := [], subclasses := [], abstract := false, collection := none, hasDel := false }), #[(some (.ref 183)), none, (some (.str (PySem.Str.ofString "Long") 410)), (some (.str (PySem.Str.ofString "Long") 418)), (some (.builtin "ValueError.__new__")), (some (.bool true))]⟩) ::
  (nat_lit 203, ⟨(.type "dict"), none, (.dict (List.toArray (⟨PySem.PyData.keyHash P (PySem.Str.ofString "__module__"), .str (PySem.Str.ofString "__module__") 433, (.str (PySem.Str.ofString "opencalls.errors") 194)⟩ :: ⟨PySem.PyData.keyHash P (PySem.Str.ofString "__firstlineno__"), .str (PySem.Str.ofString "__firstlineno__") 437, (.int (37) 436)⟩ :: ⟨PySem.PyData.keyHash P (PySem.Str.ofString "__static_attributes__"), .str (PySem.Str.ofString "__static_attributes__") 438, (.ref 202)⟩ :: ⟨PySem.PyData.keyHash P (PySem.Str.ofString "__doc__"), .str (PySem.Str.ofString "__doc__") 439, .none⟩ :: [])) 2), #[]⟩) ::
  (nat_lit 204, ⟨(.type "type"), none, (.cls { name := (PySem.Str.ofString "Busy"), bases := [(.ref 31)], mro := [(.ref 204), (.ref 31), (.type "ValueError"), (.type "Exception"), (.type "BaseException"), (.type "object")], ns := 203, qualname := (PySem.Str.ofString "Busy"), hasDict := true, slotNames := [], subclasses := [], abstract := false, collection := none, hasDel := false }), #[(some (.ref 195)), none, (some (.str (PySem.Str.ofString "Busy") 426)), (some (.str (PySem.Str.ofString "Busy") 434)), (some (.builtin "ValueError.__new__")), (some (.bool true))]⟩) ::
  (nat_lit 222, ⟨(.type "dict"), none, (.dict (List.toArray (⟨PySem.PyData.keyHash P (PySem.Str.ofString "__module__"), .str (PySem.Str.ofString "__module__") 449, (.str (PySem.Str.ofString "opencalls.errors") 194)⟩ :: ⟨PySem.PyData.keyHash P (PySem.Str.ofString "__firstlineno__"), .str (PySem.Str.ofString "__firstlineno__") 453, (.int (39) 452)⟩ :: ⟨PySem.PyData.keyHash P (PySem.Str.ofString "__init__"), .str (PySem.Str.ofString "__init__") 461, (.ref 220)⟩ :: ⟨PySem.PyData.keyHash P (PySem.Str.ofString "__static_attributes__"), .str (PySem.Str.ofString "__static_attributes__") 463, (.ref 221)⟩ :: ⟨PySem.PyData.keyHash P (PySem.Str.ofString "__weakref__"), .str (PySem.Str.ofString "__weakref__") 465, (.ref 224)⟩ :: ⟨PySem.PyData.keyHash P (PySem.Str.ofString "__doc__"), .str (PySem.Str.ofString "__doc__") 466, .none⟩ :: [])) 3), #[]⟩) ::
  (nat_lit 223, ⟨(.type "type"), none, (.cls { name := (PySem.Str.ofString "NoHand"), bases := [(.type "LookupError")], mro := [(.ref 223), (.type "LookupError"), (.type "Exception"), (.type "BaseException"), (.type "object")], ns := 222, qualname := (PySem.Str.ofString "NoHand"), hasDict := true, slotNames := [], subclasses := [], abstract := false, collection := none, hasDel := false }), #[(some (.ref 207)), none, (some (.str (PySem.Str.ofString "NoHand") 442)), (some (.str (PySem.Str.ofString "NoHand") 450)), (some (.builtin "LookupError.__new__")), (some (.bool true))]⟩) ::
  (nat_lit 224, ⟨(.type "getset_descriptor"), none, (.fields #[(.str (PySem.Str.ofString "__weakref__") 464), (.ref 223), (.builtin "ExceptionGroup.__weakref__"), .none]), #[]⟩) ::
  (nat_lit 242, ⟨(.type "dict"), none, (.dict (List.toArray (⟨PySem.PyData.keyHash P (PySem.Str.ofString "__module__"), .str (PySem.Str.ofString "__module__") 476, (.str (PySem.Str.ofString "opencalls.errors") 194)⟩ :: ⟨PySem.PyData.keyHash P (PySem.Str.ofString "__firstlineno__"), .str (PySem.Str.ofString "__firstlineno__") 480, (.int (43) 479)⟩ :: ⟨PySem.PyData.keyHash P (PySem.Str.ofString "__init__"), .str (PySem.Str.ofString "__init__") 488, (.ref 240)⟩ :: ⟨PySem.PyData.keyHash P (PySem.Str.ofString "__static_attributes__"), .str (PySem.Str.ofString "__static_attributes__") 490, (.ref 241)⟩ :: ⟨PySem.PyData.keyHash P (PySem.Str.ofString "__weakref__"), .str (PySem.Str.ofString "__weakref__") 492, (.ref 244)⟩ :: ⟨PySem.PyData.keyHash P (PySem.Str.ofString "__doc__"), .str (PySem.Str.ofString "__doc__") 493, .none⟩ :: [])) 3), #[]⟩) ::
  (nat_lit 243, ⟨(.type "type"), none, (.cls { name := (PySem.Str.ofString "NoMoment"), bases := [(.type "LookupError")], mro := [(.ref 243), (.type "LookupError"), (.type "Exception"), (.type "BaseException"), (.type "object")], ns := 242, qualname := (PySem.Str.ofString "NoMoment"), hasDict := true, slotNames := [], subclasses := [], abstract := false, collection := none, hasDel := false }), #[(some (.ref 227)), none, (some (.str (PySem.Str.ofString "NoMoment") 469)), (some (.str (PySem.Str.ofString "NoMoment") 477)), (some (.builtin "LookupError.__new__")), (some (.bool true))]⟩) ::
  (nat_lit 244, ⟨(.type "getset_descriptor"), none, (.fields #[(.str (PySem.Str.ofString "__weakref__") 491), (.ref 243), (.builtin "ExceptionGroup.__weakref__"), .none]), #[]⟩) ::
  (nat_lit 250, ⟨(.type "code"), none, (.fields #[(.str (PySem.Str.ofString "is_name") 500), (.str (PySem.Str.ofString "is_name") 501), (.str (PySem.Str.ofString "/claim/cut.py") 502), (.int (49) 0), (.int (1) 0), (.int (0) 0), (.int (0) 0), (.int (3) 0), (.ref 247), (.bool true), (.int (181) 0), (.ref 248), .none, .none, .none, (.ref 249), (.int (503) 0), (.int (49) 0), (.str (PySem.Str.ofString "/claim/cut.py") 504)]), #[]⟩) ::
  (nat_lit 251, ⟨(.type "function"), none, (.func (PySem.W.fnOf (PySem.Str.ofString "is_name") (PySem.Str.ofString "is_name") (defArgs (topR 19)) (defBody (topR 19)) (defScope (topR 19)) .none .none .none (.str (PySem.Str.ofString "opencalls.names") 496) none (.ref 250) .none)), #[]⟩) ::
  (nat_lit 255, ⟨(.type "code"), none, (.fields #[(.str (PySem.Str.ofString "is_rising") 506), (.str (PySem.Str.ofString "is_rising") 507), (.str (PySem.Str.ofString "/claim/cut.py") 508), (.int (51) 0), (.int (1) 0), (.int (0) 0), (.int (0) 0), (.int (3) 0), (.ref 252), (.bool true), (.int (181) 0), (.ref 253), .none, .none, .none, (.ref 254), (.int (509) 0), (.int (51) 0), (.str (PySem.Str.ofString "/claim/cut.py") 510)]), #[]⟩) ::
  (nat_lit 256, ⟨(.type "function"), none, (.func (PySem.W.fnOf (PySem.Str.ofString "is_rising") (PySem.Str.ofString "is_rising") (defArgs (topR 20)) (defBody (topR 20)) (defScope (topR 20)) .none .none .none (.str (PySem.Str.ofString "opencalls.names") 496) none (.ref 255) .none)), #[]⟩) ::
  (nat_lit 260, ⟨(.type "code"), none, (.fields #[(.str (PySem.Str.ofString "are_names") 512), (.str (PySem.Str.ofString "are_names") 513), (.str (PySem.Str.ofString "/claim/cut.py") 514), (.int (53) 0), (.int (1) 0), (.int (0) 0), (.int (0) 0), (.int (3) 0), (.ref 257), (.bool true), (.int (181) 0), (.ref 258), .none, .none, .none, (.ref 259), (.int (515) 0), (.int (53) 0), (.str (PySem.Str.ofString "/claim/cut.py") 516)]), #[]⟩) ::
  (nat_lit 261, ⟨(.type "function"), none, (.func (PySem.W.fnOf (PySem.Str.ofString "are_names") (PySem.Str.ofString "are_names") (defArgs (topR 21)) (defBody (topR 21)) (defScope (topR 21)) .none .none .none (.str (PySem.Str.ofString "opencalls.names") 496) none (.ref 260) .none)), #[]⟩) ::
  (nat_lit 267, ⟨(.type "code"), none, (.fields #[(.str (PySem.Str.ofString "is_number") 520), (.str (PySem.Str.ofString "is_number") 521), (.str (PySem.Str.ofString "/claim/cut.py") 522), (.int (56) 0), (.int (1) 0), (.int (0) 0), (.int (0) 0), (.int (3) 0), (.ref 262), (.bool true), (.int (181) 0), (.ref 263), .none, (.ref 264), (.ref 265), (.ref 266), (.int (524) 0), (.int (56) 0), (.str (PySem.Str.ofString "/claim/cut.py") 525)]), #[]⟩) ::
  (nat_lit 268, ⟨(.type "function"), none, (.func (PySem.W.fnOf (PySem.Str.ofString "is_number") (PySem.Str.ofString "is_number") (defArgs (topR 23)) (defBody (topR 23)) (defScope (topR 23)) .none .none .none (.str (PySem.Str.ofString "opencalls.rests") 518) none (.ref 267) .none)), #[]⟩) ::
  (nat_lit 274, ⟨(.type "code"), none, (.fields #[(.str (PySem.Str.ofString "is_rest") 527), (.str (PySem.Str.ofString "is_rest") 528), (.str (PySem.Str.ofString "/claim/cut.py") 529), (.int (58) 0), (.int (2) 0), (.int (0) 0), (.int (0) 0), (.int (3) 0), (.ref 269), (.bool true), (.int (181) 0), (.ref 270), .none, (.ref 271), (.ref 272), (.ref 273), (.int (532) 0), (.int (58) 0), (.str (PySem.Str.ofString "/claim/cut.py") 533)]), #[]⟩) ::
  (nat_lit 275, ⟨(.type "function"), none, (.func (PySem.W.fnOf (PySem.Str.ofString "is_rest") (PySem.Str.ofString "is_rest") (defArgs (topR 24)) (defBody (topR 24)) (defScope (topR 24)) .none .none .none (.str (PySem.Str.ofString "opencalls.rests") 518) none (.ref 274) .none)), #[]⟩) ::
  (nat_lit 281, ⟨(.type "code"), none, (.fields #[(.str (PySem.Str.ofString "contrary") 535), (.str (PySem.Str.ofString "contrary") 536), (.str (PySem.Str.ofString "/claim/cut.py") 537), (.int (60) 0), (.int (2) 0), (.int (0) 0), (.int (0) 0), (.int (3) 0), (.ref 276), (.bool true), (.int (181) 0), (.ref 277), .none, (.ref 278), (.ref 279), (.ref 280), (.int (541) 0), (.int (60) 0), (.str (PySem.Str.ofString "/claim/cut.py") 542)]), #[]⟩) ::
  (nat_lit 282, ⟨(.type "function"), none, (.func (PySem.W.fnOf (PySem.Str.ofString "contrary") (PySem.Str.ofString "contrary") (defArgs (topR 25)) (defBody (topR 25)) (defScope (topR 25)) .none .none .none (.str (PySem.Str.ofString "opencalls.rests") 518) none (.ref 281) .none)), #[]⟩) ::
  (nat_lit 286, ⟨(.type "code"), none, (.fields #[(.str (PySem.Str.ofString "is_row") 546), (.str (PySem.Str.ofString "is_row") 547), (.str (PySem.Str.ofString "/claim/cut.py") 548), (.int (66) 0), (.int (3) 0), (.int (0) 0), (.int (0) 0), (.int (3) 0), (.ref 283), (.bool true), (.int (181) 0), (.ref 284), .none, .none, .none, (.ref 285), (.int (549) 0), (.int (66) 0), (.str (PySem.Str.ofString "/claim/cut.py") 550)]), #[]⟩) ::
  (nat_lit 287, ⟨(.type "function"), none, (.func (PySem.W.fnOf (PySem.Str.ofString "is_row") (PySem.Str.ofString "is_row") (defArgs (topR 27)) (defBody (topR 27)) (defScope (topR 27)) .none .none .none (.str (PySem.Str.ofString "opencalls.rows") 544) none (.ref 286) .none)), #[]⟩) ::
  (nat_lit 291, ⟨(.type "code"), none, (.fields #[(.str (PySem.Str.ofString "added") 552), (.str (PySem.Str.ofString "added") 553), (.str (PySem.Str.ofString "/claim/cut.py") 554), (.int (68) 0), (.int (3) 0), (.int (0) 0), (.int (0) 0), (.int (3) 0), (.ref 288), (.bool true), (.int (181) 0), (.ref 289), .none, .none, .none, (.ref 290), (.int (555) 0), (.int (68) 0), (.str (PySem.Str.ofString "/claim/cut.py") 556)]), #[]⟩) ::
  (nat_lit 292, ⟨(.type "function"), none, (.func (PySem.W.fnOf (PySem.Str.ofString "added") (PySem.Str.ofString "added") (defArgs (topR 28)) (defBody (topR 28)) (defScope (topR 28)) .none .none .none (.str (PySem.Str.ofString "opencalls.rows") 544) none (.ref 291) .none)), #[]⟩) ::
  (nat_lit 296, ⟨(.type "code"), none, (.fields #[(.str (PySem.Str.ofString "times") 558), (.str (PySem.Str.ofString "times") 559), (.str (PySem.Str.ofString "/claim/cut.py") 560), (.int (70) 0), (.int (3) 0), (.int (0) 0), (.int (0) 0), (.int (3) 0), (.ref 293), (.bool true), (.int (181) 0), (.ref 294), .none, .none, .none, (.ref 295), (.int (561) 0), (.int (70) 0), (.str (PySem.Str.ofString "/claim/cut.py") 562)]), #[]⟩) ::
  (nat_lit 297, ⟨(.type "function"), none, (.func (PySem.W.fnOf (PySem.Str.ofString "times") (PySem.Str.ofString "times") (defArgs (topR 29)) (defBody (topR 29)) (defScope (topR 29)) .none .none .none (.str (PySem.Str.ofString "opencalls.rows") 544) none (.ref 296) .none)), #[]⟩) ::
  (nat_lit 303, ⟨(.type "code"), none, (.fields #[(.str (PySem.Str.ofString "check_hand") 566), (.str (PySem.Str.ofString "check_hand") 567), (.str (PySem.Str.ofString "/claim/cut.py") 568), (.int (73) 0), (.int (2) 0), (.int (0) 0), (.int (0) 0), (.int (3) 0), (.ref 298), (.bool true), (.int (181) 0), (.ref 299), .none, (.ref 300), (.ref 301), (.ref 302), (.int (571) 0), (.int (73) 0), (.str (PySem.Str.ofString "/claim/cut.py") 572)]), #[]⟩) ::
  (nat_lit 304, ⟨(.type "function"), none, (.func (PySem.W.fnOf (PySem.Str.ofString "check_hand") (PySem.Str.ofString "check_hand") (defArgs (topR 31)) (defBody (topR 31)) (defScope (topR 31)) .none .none .none (.str (PySem.Str.ofString "opencalls.checks") 564) none (.ref 303) .none)), #[]⟩) ::
  (nat_lit 310, ⟨(.type "code"), none, (.fields #[(.str (PySem.Str.ofString "check_hands") 574), (.str (PySem.Str.ofString "check_hands") 575), (.str (PySem.Str.ofString "/claim/cut.py") 576), (.int (76) 0), (.int (3) 0), (.int (0) 0), (.int (0) 0), (.int (3) 0), (.ref 305), (.bool true), (.int (181) 0), (.ref 306), .none, (.ref 307), (.ref 308), (.ref 309), (.int (581) 0), (.int (76) 0), (.str (PySem.Str.ofString "/claim/cut.py") 582)]), #[]⟩) ::
  (nat_lit 311, ⟨(.type "function"), none, (.func (PySem.W.fnOf (PySem.Str.ofString "check_hands") (PySem.Str.ofString "check_hands") (defArgs (topR 32)) (defBody (topR 32)) (defScope (topR 32)) .none .none .none (.str (PySem.Str.ofString "opencalls.checks") 564) none (.ref 310) .none)), #[]⟩) ::
  (nat_lit 317, ⟨(.type "code"), none, (.fields #[(.str (PySem.Str.ofString "check_row") 584), (.str (PySem.Str.ofString "check_row") 585), (.str (PySem.Str.ofString "/claim/cut.py") 586), (.int (81) 0), (.int (3) 0), (.int (0) 0), (.int (0) 0), (.int (3) 0), (.ref 312), (.bool true), (.int (181) 0), (.ref 313), .none, (.ref 314), (.ref 315), (.ref 316), (.int (590) 0), (.int (81) 0), (.str (PySem.Str.ofString "/claim/cut.py") 591)]), #[]⟩) ::
  (nat_lit 318, ⟨(.type "function"), none, (.func (PySem.W.fnOf (PySem.Str.ofString "check_row") (PySem.Str.ofString "check_row") (defArgs (topR 33)) (defBody (topR 33)) (defScope (topR 33)) .none .none .none (.str (PySem.Str.ofString "opencalls.checks") 564) none (.ref 317) .none)), #[]⟩) ::
  (nat_lit 324, ⟨(.type "code"), none, (.fields #[(.str (PySem.Str.ofString "led") 595), (.str (PySem.Str.ofString "led") 596), (.str (PySem.Str.ofString "/claim/cut.py") 597), (.int (85) 0), (.int (4) 0), (.int (0) 0), (.int (0) 0), (.int (3) 0), (.ref 319), (.bool true), (.int (181) 0), (.ref 320), .none, (.ref 321), (.ref 322), (.ref 323), (.int (604) 0), (.int (85) 0), (.str (PySem.Str.ofString "/claim/cut.py") 605)]), #[]⟩) ::
  (nat_lit 325, ⟨(.type "function"), none, (.func (PySem.W.fnOf (PySem.Str.ofString "led") (PySem.Str.ofString "led") (defArgs (topR 35)) (defBody (topR 35)) (defScope (topR 35)) .none .none .none (.str (PySem.Str.ofString "opencalls.leads") 593) none (.ref 324) .none)), #[]⟩) ::
  (nat_lit 329, ⟨(.type "code"), none, (.fields #[(.str (PySem.Str.ofString "is_noughts") 609), (.str (PySem.Str.ofString "is_noughts") 610), (.str (PySem.Str.ofString "/claim/cut.py") 611), (.int (91) 0), (.int (1) 0), (.int (0) 0), (.int (0) 0), (.int (3) 0), (.ref 326), (.bool true), (.int (181) 0), (.ref 327), .none, .none, .none, (.ref 328), (.int (612) 0), (.int (91) 0), (.str (PySem.Str.ofString "/claim/cut.py") 613)]), #[]⟩) ::
  (nat_lit 330, ⟨(.type "function"), none, (.func (PySem.W.fnOf (PySem.Str.ofString "is_noughts") (PySem.Str.ofString "is_noughts") (defArgs (topR 37)) (defBody (topR 37)) (defScope (topR 37)) .none .none .none (.str (PySem.Str.ofString "opencalls.rooms") 607) none (.ref 329) .none)), #[]⟩) ::
  (nat_lit 336, ⟨(.type "code"), none, (.fields #[(.str (PySem.Str.ofString "first_place") 615), (.str (PySem.Str.ofString "first_place") 616), (.str (PySem.Str.ofString "/claim/cut.py") 617), (.int (93) 0), (.int (1) 0), (.int (0) 0), (.int (0) 0), (.int (3) 0), (.ref 331), (.bool true), (.int (181) 0), (.ref 332), .none, (.ref 333), (.ref 334), (.ref 335), (.int (621) 0), (.int (93) 0), (.str (PySem.Str.ofString "/claim/cut.py") 622)]), #[]⟩) ::
  (nat_lit 337, ⟨(.type "function"), none, (.func (PySem.W.fnOf (PySem.Str.ofString "first_place") (PySem.Str.ofString "first_place") (defArgs (topR 38)) (defBody (topR 38)) (defScope (topR 38)) .none .none .none (.str (PySem.Str.ofString "opencalls.rooms") 607) none (.ref 336) .none)), #[]⟩) ::
  (nat_lit 343, ⟨(.type "code"), none, (.fields #[(.str (PySem.Str.ofString "cleared") 624), (.str (PySem.Str.ofString "cleared") 625), (.str (PySem.Str.ofString "/claim/cut.py") 626), (.int (98) 0), (.int (3) 0), (.int (0) 0), (.int (0) 0), (.int (3) 0), (.ref 338), (.bool true), (.int (181) 0), (.ref 339), .none, (.ref 340), (.ref 341), (.ref 342), (.int (631) 0), (.int (98) 0), (.str (PySem.Str.ofString "/claim/cut.py") 632)]), #[]⟩) ::
  (nat_lit 344, ⟨(.type "function"), none, (.func (PySem.W.fnOf (PySem.Str.ofString "cleared") (PySem.Str.ofString "cleared") (defArgs (topR 39)) (defBody (topR 39)) (defScope (topR 39)) .none .none .none (.str (PySem.Str.ofString "opencalls.rooms") 607) none (.ref 343) .none)), #[]⟩) ::
  (nat_lit 350, ⟨(.type "code"), none, (.fields #[(.str (PySem.Str.ofString "left_of") 634), (.str (PySem.Str.ofString "left_of") 635), (.str (PySem.Str.ofString "/claim/cut.py") 636), (.int (103) 0), (.int (3) 0), (.int (0) 0), (.int (0) 0), (.int (3) 0), (.ref 345), (.bool true), (.int (181) 0), (.ref 346), .none, (.ref 347), (.ref 348), (.ref 349), (.int (641) 0), (.int (103) 0), (.str (PySem.Str.ofString "/claim/cut.py") 642)]), #[]⟩) ::
  (nat_lit 351, ⟨(.type "function"), none, (.func (PySem.W.fnOf (PySem.Str.ofString "left_of") (PySem.Str.ofString "left_of") (defArgs (topR 40)) (defBody (topR 40)) (defScope (topR 40)) .none .none .none (.str (PySem.Str.ofString "opencalls.rooms") 607) none (.ref 350) .none)), #[]⟩) ::
  (nat_lit 355, ⟨(.type "code"), none, (.fields #[(.str (PySem.Str.ofString "widened") 644), (.str (PySem.Str.ofString "widened") 645), (.str (PySem.Str.ofString "/claim/cut.py") 646), (.int (107) 0), (.int (3) 0), (.int (0) 0), (.int (0) 0), (.int (3) 0), (.ref 352), (.bool true), (.int (181) 0), (.ref 353), .none, .none, .none, (.ref 354), (.int (647) 0), (.int (107) 0), (.str (PySem.Str.ofString "/claim/cut.py") 648)]), #[]⟩) ::
  (nat_lit 356, ⟨(.type "function"), none, (.func (PySem.W.fnOf (PySem.Str.ofString "widened") (PySem.Str.ofString "widened") (defArgs (topR 41)) (defBody (topR 41)) (defScope (topR 41)) .none .none .none (.str (PySem.Str.ofString "opencalls.rooms") 607) none (.ref 355) .none)), #[]⟩) ::
  (nat_lit 362, ⟨(.type "code"), none, (.fields #[(.str (PySem.Str.ofString "room_of") 650), (.str (PySem.Str.ofString "room_of") 651), (.str (PySem.Str.ofString "/claim/cut.py") 652), (.int (114) 0), (.int (3) 0), (.int (0) 0), (.int (0) 0), (.int (3) 0), (.ref 357), (.bool true), (.int (181) 0), (.ref 358), .none, (.ref 359), (.ref 360), (.ref 361), (.int (658) 0), (.int (114) 0), (.str (PySem.Str.ofString "/claim/cut.py") 659)]), #[]⟩) ::
  (nat_lit 363, ⟨(.type "function"), none, (.func (PySem.W.fnOf (PySem.Str.ofString "room_of") (PySem.Str.ofString "room_of") (defArgs (topR 42)) (defBody (topR 42)) (defScope (topR 42)) .none .none .none (.str (PySem.Str.ofString "opencalls.rooms") 607) none (.ref 362) .none)), #[]⟩) ::
  (nat_lit 369, ⟨(.type "code"), none, (.fields #[(.str (PySem.Str.ofString "within") 661), (.str (PySem.Str.ofString "within") 662), (.str (PySem.Str.ofString "/claim/cut.py") 663), (.int (121) 0), (.int (3) 0), (.int (0) 0), (.int (0) 0), (.int (3) 0), (.ref 364), (.bool true), (.int (181) 0), (.ref 365), .none, (.ref 366), (.ref 367), (.ref 368), (.int (667) 0), (.int (121) 0), (.str (PySem.Str.ofString "/claim/cut.py") 668)]), #[]⟩) ::
  (nat_lit 370, ⟨(.type "function"), none, (.func (PySem.W.fnOf (PySem.Str.ofString "within") (PySem.Str.ofString "within") (defArgs (topR 43)) (defBody (topR 43)) (defScope (topR 43)) .none .none .none (.str (PySem.Str.ofString "opencalls.rooms") 607) none (.ref 369) .none)), #[]⟩) ::
  (nat_lit 376, ⟨(.type "code"), none, (.fields #[(.str (PySem.Str.ofString "needed") 672), (.str (PySem.Str.ofString "needed") 673), (.str (PySem.Str.ofString "/claim/cut.py") 674), (.int (124) 0), (.int (3) 0), (.int (0) 0), (.int (0) 0), (.int (3) 0), (.ref 371), (.bool true), (.int (181) 0), (.ref 372), .none, (.ref 373), (.ref 374), (.ref 375), (.int (682) 0), (.int (124) 0), (.str (PySem.Str.ofString "/claim/cut.py") 683)]), #[]⟩) ::
  (nat_lit 377, ⟨(.type "function"), none, (.func (PySem.W.fnOf (PySem.Str.ofString "needed") (PySem.Str.ofString "needed") (defArgs (topR 45)) (defBody (topR 45)) (defScope (topR 45)) .none .none .none (.str (PySem.Str.ofString "opencalls.papers") 670) none (.ref 376) .none)), #[]⟩) ::
  (nat_lit 390, ⟨(.type "code"), none, (.fields #[(.str (PySem.Str.ofString "__init__") 699), (.str (PySem.Str.ofString "Moment.__init__") 700), (.str (PySem.Str.ofString "/claim/cut.py") 701), (.int (135) 0), (.int (5) 0), (.int (0) 0), (.int (0) 0), (.int (3) 0), (.ref 385), (.bool true), (.int (181) 0), (.ref 386), .none, (.ref 387), (.ref 388), (.ref 389), (.int (707) 0), (.int (135) 0), (.str (PySem.Str.ofString "/claim/cut.py") 708)]), #[]⟩) ::
  (nat_lit 391, ⟨(.type "function"), none, (.func (PySem.W.fnOf (PySem.Str.ofString "__init__") (PySem.Str.ofString "Moment.__init__") (defArgs (inClass (topR 47) 0)) (defBody (inClass (topR 47) 0)) (defScope (inClass (topR 47) 0)) .none .none .none (.str (PySem.Str.ofString "opencalls.moments") 685) none (.ref 390) .none)), #[]⟩) ::
  (nat_lit 393, ⟨(.type "dict"), none, (.dict (List.toArray (⟨PySem.PyData.keyHash P (PySem.Str.ofString "__module__"), .str (PySem.Str.ofString "__module__") 694, (.str (PySem.Str.ofString "opencalls.moments") 685)⟩ :: ⟨PySem.PyData.keyHash P (PySem.Str.ofString "__firstlineno__"), .str (PySem.Str.ofString "__firstlineno__") 698, (.int (133) 697)⟩ :: ⟨PySem.PyData.keyHash P (PySem.Str.ofString "__init__"), .str (PySem.Str.ofString "__init__") 709, (.ref 391)⟩ :: ⟨PySem.PyData.keyHash P (PySem.Str.ofString "__static_attributes__"), .str (PySem.Str.ofString "__static_attributes__") 714, (.ref 392)⟩ :: ⟨PySem.PyData.keyHash P (PySem.Str.ofString "__dict__"), .str (PySem.Str.ofString "__dict__") 716, (.ref 395)⟩ :: ⟨PySem.PyData.keyHash P (PySem.Str.ofString "__weakref__"), .str (PySem.Str.ofString "__weakref__") 718, (.ref 396)⟩ :: ⟨PySem.PyData.keyHash P (PySem.Str.ofString "__doc__"), .str (PySem.Str.ofString "__doc__") 719, .none⟩ :: [])) 4), #[]⟩) ::
  (nat_lit 394, ⟨(.type "type"), none, (.cls { name := (PySem.Str.ofString "Moment"), bases := [(.type "object")], mro := [(.ref 394), (.type "object")], ns := 393, qualname := (PySem.Str.ofString "Moment"), hasDict := true, slotNames := [], subclasses := [], abstract := false, collection := none, hasDel := false }), #[none, none, (some (.str (PySem.Str.ofString "Moment") 687)), (some (.str (PySem.Str.ofString "Moment") 695)), (some (.builtin "object.__new__")), (some (.bool true))]⟩) ::
  (nat_lit 395, ⟨(.type "getset_descriptor"), none, (.fields #[(.str (PySem.Str.ofString "__dict__") 715), (.ref 394), (.builtin "function.__dict__"), (.builtin "function.__dict__#set")]), #[]⟩) ::
  (nat_lit 396, ⟨(.type "getset_descriptor"), none, (.fields #[(.str (PySem.Str.ofString "__weakref__") 717), (.ref 394), (.builtin "ExceptionGroup.__weakref__"), .none]), #[]⟩) ::
  (nat_lit 402, ⟨(.type "code"), none, (.fields #[(.str (PySem.Str.ofString "names_at") 722), (.str (PySem.Str.ofString "names_at") 723), (.str (PySem.Str.ofString "/claim/cut.py") 724), (.int (140) 0), (.int (1) 0), (.int (0) 0), (.int (0) 0), (.int (3) 0), (.ref 399), (.bool true), (.int (181) 0), (.ref 400), .none, .none, .none, (.ref 401), (.int (725) 0), (.int (140) 0), (.str (PySem.Str.ofString "/claim/cut.py") 726)]), #[]⟩) ::
  (nat_lit 403, ⟨(.type "function"), none, (.func (PySem.W.fnOf (PySem.Str.ofString "names_at") (PySem.Str.ofString "names_at") (defArgs (topR 48)) (defBody (topR 48)) (defScope (topR 48)) .none .none .none (.str (PySem.Str.ofString "opencalls.moments") 685) none (.ref 402) .none)), #[]⟩) ::
  (nat_lit 409, ⟨(.type "code"), none, (.fields #[(.str (PySem.Str.ofString "heard_at") 728), (.str (PySem.Str.ofString "heard_at") 729), (.str (PySem.Str.ofString "/claim/cut.py") 730), (.int (142) 0), (.int (2) 0), (.int (0) 0), (.int (0) 0), (.int (3) 0), (.ref 404), (.bool true), (.int (181) 0), (.ref 405), .none, (.ref 406), (.ref 407), (.ref 408), (.int (736) 0), (.int (142) 0), (.str (PySem.Str.ofString "/claim/cut.py") 737)]), #[]⟩) ::
  (nat_lit 410, ⟨(.type "function"), none, (.func (PySem.W.fnOf (PySem.Str.ofString "heard_at") (PySem.Str.ofString "heard_at") (defArgs (topR 49)) (defBody (topR 49)) (defScope (topR 49)) .none .none .none (.str (PySem.Str.ofString "opencalls.moments") 685) none (.ref 409) .none)), #[]⟩) ::
  (nat_lit 416, ⟨(.type "code"), none, (.fields #[(.str (PySem.Str.ofString "known_at") 739), (.str (PySem.Str.ofString "known_at") 740), (.str (PySem.Str.ofString "/claim/cut.py") 741), (.int (150) 0), (.int (2) 0), (.int (0) 0), (.int (0) 0), (.int (3) 0), (.ref 411), (.bool true), (.int (181) 0), (.ref 412), .none, (.ref 413), (.ref 414), (.ref 415), (.int (744) 0), (.int (150) 0), (.str (PySem.Str.ofString "/claim/cut.py") 745)]), #[]⟩) ::
  (nat_lit 417, ⟨(.type "function"), none, (.func (PySem.W.fnOf (PySem.Str.ofString "known_at") (PySem.Str.ofString "known_at") (defArgs (topR 50)) (defBody (topR 50)) (defScope (topR 50)) .none .none .none (.str (PySem.Str.ofString "opencalls.moments") 685) none (.ref 416) .none)), #[]⟩) ::
  (nat_lit 426, ⟨(.type "code"), none, (.fields #[(.str (PySem.Str.ofString "are_first_rows") 755), (.str (PySem.Str.ofString "are_first_rows") 756), (.str (PySem.Str.ofString "/claim/cut.py") 757), (.int (156) 0), (.int (2) 0), (.int (0) 0), (.int (0) 0), (.int (3) 0), (.ref 423), (.bool true), (.int (181) 0), (.ref 424), .none, .none, .none, (.ref 425), (.int (758) 0), (.int (156) 0), (.str (PySem.Str.ofString "/claim/cut.py") 759)]), #[]⟩) ::
  (nat_lit 427, ⟨(.type "function"), none, (.func (PySem.W.fnOf (PySem.Str.ofString "are_first_rows") (PySem.Str.ofString "are_first_rows") (defArgs (topR 53)) (defBody (topR 53)) (defScope (topR 53)) .none .none .none (.str (PySem.Str.ofString "opencalls.deeds") 753) none (.ref 426) .none)), #[]⟩) ::
  (nat_lit 431, ⟨(.type "code"), none, (.fields #[(.str (PySem.Str.ofString "after_call") 761), (.str (PySem.Str.ofString "after_call") 762), (.str (PySem.Str.ofString "/claim/cut.py") 763), (.int (158) 0), (.int (3) 0), (.int (0) 0), (.int (0) 0), (.int (3) 0), (.ref 428), (.bool true), (.int (181) 0), (.ref 429), .none, .none, .none, (.ref 430), (.int (764) 0), (.int (158) 0), (.str (PySem.Str.ofString "/claim/cut.py") 765)]), #[]⟩) ::
  (nat_lit 432, ⟨(.type "function"), none, (.func (PySem.W.fnOf (PySem.Str.ofString "after_call") (PySem.Str.ofString "after_call") (defArgs (topR 54)) (defBody (topR 54)) (defScope (topR 54)) .none .none .none (.str (PySem.Str.ofString "opencalls.deeds") 753) none (.ref 431) .none)), #[]⟩) ::
  (nat_lit 436, ⟨(.type "code"), none, (.fields #[(.str (PySem.Str.ofString "after_whisper") 767), (.str (PySem.Str.ofString "after_whisper") 768), (.str (PySem.Str.ofString "/claim/cut.py") 769), (.int (165) 0), (.int (3) 0), (.int (0) 0), (.int (0) 0), (.int (3) 0), (.ref 433), (.bool true), (.int (181) 0), (.ref 434), .none, .none, .none, (.ref 435), (.int (770) 0), (.int (165) 0), (.str (PySem.Str.ofString "/claim/cut.py") 771)]), #[]⟩) ::
  (nat_lit 437, ⟨(.type "function"), none, (.func (PySem.W.fnOf (PySem.Str.ofString "after_whisper") (PySem.Str.ofString "after_whisper") (defArgs (topR 55)) (defBody (topR 55)) (defScope (topR 55)) .none .none .none (.str (PySem.Str.ofString "opencalls.deeds") 753) none (.ref 436) .none)), #[]⟩) ::
  (nat_lit 441, ⟨(.type "code"), none, (.fields #[(.str (PySem.Str.ofString "after_meet") 773), (.str (PySem.Str.ofString "after_meet") 774), (.str (PySem.Str.ofString "/claim/cut.py") 775), (.int (170) 0), (.int (2) 0), (.int (0) 0), (.int (0) 0), (.int (3) 0), (.ref 438), (.bool true), (.int (181) 0), (.ref 439), .none, .none, .none, (.ref 440), (.int (776) 0), (.int (170) 0), (.str (PySem.Str.ofString "/claim/cut.py") 777)]), #[]⟩) ::
  (nat_lit 442, ⟨(.type "function"), none, (.func (PySem.W.fnOf (PySem.Str.ofString "after_meet") (PySem.Str.ofString "after_meet") (defArgs (topR 56)) (defBody (topR 56)) (defScope (topR 56)) .none .none .none (.str (PySem.Str.ofString "opencalls.deeds") 753) none (.ref 441) .none)), #[]⟩) ::
  (nat_lit 446, ⟨(.type "code"), none, (.fields #[(.str (PySem.Str.ofString "news") 779), (.str (PySem.Str.ofString "news") 780), (.str (PySem.Str.ofString "/claim/cut.py") 781), (.int (175) 0), (.int (3) 0), (.int (0) 0), (.int (0) 0), (.int (3) 0), (.ref 443), (.bool true), (.int (181) 0), (.ref 444), .none, .none, .none, (.ref 445), (.int (782) 0), (.int (175) 0), (.str (PySem.Str.ofString "/claim/cut.py") 783)]), #[]⟩) ::
  (nat_lit 447, ⟨(.type "function"), none, (.func (PySem.W.fnOf (PySem.Str.ofString "news") (PySem.Str.ofString "news") (defArgs (topR 57)) (defBody (topR 57)) (defScope (topR 57)) .none .none .none (.str (PySem.Str.ofString "opencalls.deeds") 753) none (.ref 446) .none)), #[]⟩) ::
  (nat_lit 451, ⟨(.type "code"), none, (.fields #[(.str (PySem.Str.ofString "after_hide") 785), (.str (PySem.Str.ofString "after_hide") 786), (.str (PySem.Str.ofString "/claim/cut.py") 787), (.int (178) 0), (.int (1) 0), (.int (0) 0), (.int (0) 0), (.int (3) 0), (.ref 448), (.bool true), (.int (181) 0), (.ref 449), .none, .none, .none, (.ref 450), (.int (788) 0), (.int (178) 0), (.str (PySem.Str.ofString "/claim/cut.py") 789)]), #[]⟩) ::
  (nat_lit 452, ⟨(.type "function"), none, (.func (PySem.W.fnOf (PySem.Str.ofString "after_hide") (PySem.Str.ofString "after_hide") (defArgs (topR 58)) (defBody (topR 58)) (defScope (topR 58)) .none .none .none (.str (PySem.Str.ofString "opencalls.deeds") 753) none (.ref 451) .none)), #[]⟩) ::
  (nat_lit 456, ⟨(.type "code"), none, (.fields #[(.str (PySem.Str.ofString "longer") 791), (.str (PySem.Str.ofString "longer") 792), (.str (PySem.Str.ofString "/claim/cut.py") 793), (.int (183) 0), (.int (1) 0), (.int (0) 0), (.int (0) 0), (.int (3) 0), (.ref 453), (.bool true), (.int (181) 0), (.ref 454), .none, .none, .none, (.ref 455), (.int (794) 0), (.int (183) 0), (.str (PySem.Str.ofString "/claim/cut.py") 795)]), #[]⟩) ::
  (nat_lit 457, ⟨(.type "function"), none, (.func (PySem.W.fnOf (PySem.Str.ofString "longer") (PySem.Str.ofString "longer") (defArgs (topR 59)) (defBody (topR 59)) (defScope (topR 59)) .none .none .none (.str (PySem.Str.ofString "opencalls.deeds") 753) none (.ref 456) .none)), #[]⟩) ::
  (nat_lit 461, ⟨(.type "code"), none, (.fields #[(.str (PySem.Str.ofString "after_change") 797), (.str (PySem.Str.ofString "after_change") 798), (.str (PySem.Str.ofString "/claim/cut.py") 799), (.int (185) 0), (.int (3) 0), (.int (0) 0), (.int (0) 0), (.int (3) 0), (.ref 458), (.bool true), (.int (181) 0), (.ref 459), .none, .none, .none, (.ref 460), (.int (800) 0), (.int (185) 0), (.str (PySem.Str.ofString "/claim/cut.py") 801)]), #[]⟩) ::
  (nat_lit 462, ⟨(.type "function"), none, (.func (PySem.W.fnOf (PySem.Str.ofString "after_change") (PySem.Str.ofString "after_change") (defArgs (topR 60)) (defBody (topR 60)) (defScope (topR 60)) .none .none .none (.str (PySem.Str.ofString "opencalls.deeds") 753) none (.ref 461) .none)), #[]⟩) ::
  (nat_lit 466, ⟨(.type "code"), none, (.fields #[(.str (PySem.Str.ofString "all_led") 803), (.str (PySem.Str.ofString "all_led") 804), (.str (PySem.Str.ofString "/claim/cut.py") 805), (.int (193) 0), (.int (4) 0), (.int (0) 0), (.int (0) 0), (.int (3) 0), (.ref 463), (.bool true), (.int (181) 0), (.ref 464), .none, .none, .none, (.ref 465), (.int (806) 0), (.int (193) 0), (.str (PySem.Str.ofString "/claim/cut.py") 807)]), #[]⟩) ::
  (nat_lit 467, ⟨(.type "function"), none, (.func (PySem.W.fnOf (PySem.Str.ofString "all_led") (PySem.Str.ofString "all_led") (defArgs (topR 61)) (defBody (topR 61)) (defScope (topR 61)) .none .none .none (.str (PySem.Str.ofString "opencalls.deeds") 753) none (.ref 466) .none)), #[]⟩) ::
  (nat_lit 473, ⟨(.type "code"), none, (.fields #[(.str (PySem.Str.ofString "after_come") 809), (.str (PySem.Str.ofString "after_come") 810), (.str (PySem.Str.ofString "/claim/cut.py") 811), (.int (195) 0), (.int (3) 0), (.int (0) 0), (.int (0) 0), (.int (3) 0), (.ref 468), (.bool true), (.int (181) 0), (.ref 469), .none, (.ref 470), (.ref 471), (.ref 472), (.int (816) 0), (.int (195) 0), (.str (PySem.Str.ofString "/claim/cut.py") 817)]), #[]⟩) ::
  (nat_lit 474, ⟨(.type "function"), none, (.func (PySem.W.fnOf (PySem.Str.ofString "after_come") (PySem.Str.ofString "after_come") (defArgs (topR 62)) (defBody (topR 62)) (defScope (topR 62)) .none .none .none (.str (PySem.Str.ofString "opencalls.deeds") 753) none (.ref 473) .none)), #[]⟩) ::
  (nat_lit 478, ⟨(.type "code"), none, (.fields #[(.str (PySem.Str.ofString "after_go") 819), (.str (PySem.Str.ofString "after_go") 820), (.str (PySem.Str.ofString "/claim/cut.py") 821), (.int (206) 0), (.int (2) 0), (.int (0) 0), (.int (0) 0), (.int (3) 0), (.ref 475), (.bool true), (.int (181) 0), (.ref 476), .none, .none, .none, (.ref 477), (.int (822) 0), (.int (206) 0), (.str (PySem.Str.ofString "/claim/cut.py") 823)]), #[]⟩) ::
  (nat_lit 479, ⟨(.type "function"), none, (.func (PySem.W.fnOf (PySem.Str.ofString "after_go") (PySem.Str.ofString "after_go") (defArgs (topR 63)) (defBody (topR 63)) (defScope (topR 63)) .none .none .none (.str (PySem.Str.ofString "opencalls.deeds") 753) none (.ref 478) .none)), #[]⟩) ::
  (nat_lit 480, ⟨(.type "dict"), none, (.dict (List.toArray (⟨PySem.PyData.keyHash P (PySem.Str.ofString "call"), .str (PySem.Str.ofString "call") 825, (.ref 432)⟩ :: ⟨PySem.PyData.keyHash P (PySem.Str.ofString "whisper"), .str (PySem.Str.ofString "whisper") 826, (.ref 437)⟩ :: ⟨PySem.PyData.keyHash P (PySem.Str.ofString "meet"), .str (PySem.Str.ofString "meet") 827, (.ref 442)⟩ :: ⟨PySem.PyData.keyHash P (PySem.Str.ofString "hide"), .str (PySem.Str.ofString "hide") 828, (.ref 452)⟩ :: ⟨PySem.PyData.keyHash P (PySem.Str.ofString "change"), .str (PySem.Str.ofString "change") 829, (.ref 462)⟩ :: ⟨PySem.PyData.keyHash P (PySem.Str.ofString "come"), .str (PySem.Str.ofString "come") 830, (.ref 474)⟩ :: ⟨PySem.PyData.keyHash P (PySem.Str.ofString "go"), .str (PySem.Str.ofString "go") 831, (.ref 479)⟩ :: [])) 7), #[]⟩) ::
  (nat_lit 486, ⟨(.type "code"), none, (.fields #[(.str (PySem.Str.ofString "after") 840), (.str (PySem.Str.ofString "after") 841), (.str (PySem.Str.ofString "/claim/cut.py") 842), (.int (213) 0), (.int (2) 0), (.int (0) 0), (.int (0) 0), (.int (3) 0), (.ref 481), (.bool true), (.int (181) 0), (.ref 482), .none, (.ref 483), (.ref 484), (.ref 485), (.int (847) 0), (.int (213) 0), (.str (PySem.Str.ofString "/claim/cut.py") 848)]), #[]⟩) ::
  (nat_lit 487, ⟨(.type "function"), none, (.func (PySem.W.fnOf (PySem.Str.ofString "after") (PySem.Str.ofString "after") (defArgs (topR 65)) (defBody (topR 65)) (defScope (topR 65)) .none .none .none (.str (PySem.Str.ofString "opencalls.deeds") 753) none (.ref 486) .none)), #[]⟩) ::
  (nat_lit 500, ⟨(.type "code"), none, (.fields #[(.str (PySem.Str.ofString "__init__") 866), (.str (PySem.Str.ofString "Book.__init__") 867), (.str (PySem.Str.ofString "/claim/cut.py") 868), (.int (221) 0), (.int (4) 0), (.int (0) 0), (.int (0) 0), (.int (3) 0), (.ref 495), (.bool true), (.int (181) 0), (.ref 496), .none, (.ref 497), (.ref 498), (.ref 499), (.int (873) 0), (.int (221) 0), (.str (PySem.Str.ofString "/claim/cut.py") 874)]), #[]⟩) ::
  (nat_lit 501, ⟨(.type "function"), none, (.func (PySem.W.fnOf (PySem.Str.ofString "__init__") (PySem.Str.ofString "Book.__init__") (defArgs (inClass (topR 68) 0)) (defBody (inClass (topR 68) 0)) (defScope (inClass (topR 68) 0)) .none .none .none (.str (PySem.Str.ofString "opencalls.books") 850) none (.ref 500) .none)), #[]⟩) ::
  (nat_lit 528, ⟨(.type "code"), none, (.fields #[(.str (PySem.Str.ofString "now") 898), (.str (PySem.Str.ofString "Book.now") 899), (.str (PySem.Str.ofString "/claim/cut.py") 900), (.int (237) 0), (.int (1) 0), (.int (0) 0), (.int (0) 0), (.int (3) 0), (.ref 523), (.bool true), (.int (181) 0), (.ref 524), .none, (.ref 525), (.ref 526), (.ref 527), (.int (902) 0), (.int (237) 0), (.str (PySem.Str.ofString "/claim/cut.py") 903)]), #[]⟩) ::
  (nat_lit 529, ⟨(.type "function"), none, (.func (PySem.W.fnOf (PySem.Str.ofString "now") (PySem.Str.ofString "Book.now") (defArgs (inClass (topR 68) 4)) (defBody (inClass (topR 68) 4)) (defScope (inClass (topR 68) 4)) .none .none .none (.str (PySem.Str.ofString "opencalls.books") 850) none (.ref 528) .none)), #[]⟩) ::
  (nat_lit 535, ⟨(.type "code"), none, (.fields #[(.str (PySem.Str.ofString "refuse_amid") 905), (.str (PySem.Str.ofString "Book.refuse_amid") 906), (.str (PySem.Str.ofString "/claim/cut.py") 907), (.int (240) 0), (.int (1) 0), (.int (0) 0), (.int (0) 0), (.int (3) 0), (.ref 530), (.bool true), (.int (181) 0), (.ref 531), .none, (.ref 532), (.ref 533), (.ref 534), (.int (909) 0), (.int (240) 0), (.str (PySem.Str.ofString "/claim/cut.py") 910)]), #[]⟩) ::
  (nat_lit 536, ⟨(.type "function"), none, (.func (PySem.W.fnOf (PySem.Str.ofString "refuse_amid") (PySem.Str.ofString "Book.refuse_amid") (defArgs (inClass (topR 68) 5)) (defBody (inClass (topR 68) 5)) (defScope (inClass (topR 68) 5)) .none .none .none (.str (PySem.Str.ofString "opencalls.books") 850) none (.ref 535) .none)), #[]⟩) ::
  (nat_lit 542, ⟨(.type "code"), none, (.fields #[(.str (PySem.Str.ofString "perform") 912), (.str (PySem.Str.ofString "Book.perform") 913), (.str (PySem.Str.ofString "/claim/cut.py") 914), (.int (244) 0), (.int (2) 0), (.int (0) 0), (.int (0) 0), (.int (3) 0), (.ref 537), (.bool true), (.int (181) 0), (.ref 538), .none, (.ref 539), (.ref 540), (.ref 541), (.int (918) 0), (.int (244) 0), (.str (PySem.Str.ofString "/claim/cut.py") 919)]), #[]⟩) ::
  (nat_lit 543, ⟨(.type "function"), none, (.func (PySem.W.fnOf (PySem.Str.ofString "perform") (PySem.Str.ofString "Book.perform") (defArgs (inClass (topR 68) 6)) (defBody (inClass (topR 68) 6)) (defScope (inClass (topR 68) 6)) .none .none .none (.str (PySem.Str.ofString "opencalls.books") 850) none (.ref 542) .none)), #[]⟩) ::
  (nat_lit 549, ⟨(.type "code"), none, (.fields #[(.str (PySem.Str.ofString "call") 921), (.str (PySem.Str.ofString "Book.call") 922), (.str (PySem.Str.ofString "/claim/cut.py") 923), (.int (251) 0), (.int (3) 0), (.int (0) 0), (.int (0) 0), (.int (3) 0), (.ref 544), (.bool true), (.int (181) 0), (.ref 545), .none, (.ref 546), (.ref 547), (.ref 548), (.int (927) 0), (.int (251) 0), (.str (PySem.Str.ofString "/claim/cut.py") 928)]), #[]⟩) ::
  (nat_lit 550, ⟨(.type "function"), none, (.func (PySem.W.fnOf (PySem.Str.ofString "call") (PySem.Str.ofString "Book.call") (defArgs (inClass (topR 68) 7)) (defBody (inClass (topR 68) 7)) (defScope (inClass (topR 68) 7)) .none .none .none (.str (PySem.Str.ofString "opencalls.books") 850) none (.ref 549) .none)), #[]⟩) ::
  (nat_lit 600, ⟨(.type "dict"), none, (.dict (List.toArray (⟨PySem.PyData.keyHash P (PySem.Str.ofString "tell"), .str (PySem.Str.ofString "tell") 987, .none⟩ :: [])) 1), #[]⟩) ::
  (nat_lit 627, ⟨(.type "code"), none, (.fields #[(.str (PySem.Str.ofString "moment_at") 1013), (.str (PySem.Str.ofString "Book.moment_at") 1014), (.str (PySem.Str.ofString "/claim/cut.py") 1015), (.int (295) 0), (.int (2) 0), (.int (0) 0), (.int (0) 0), (.int (3) 0), (.ref 622), (.bool true), (.int (181) 0), (.ref 623), .none, (.ref 624), (.ref 625), (.ref 626), (.int (1018) 0), (.int (295) 0), (.str (PySem.Str.ofString "/claim/cut.py") 1019)]), #[]⟩) ::
  (nat_lit 628, ⟨(.type "function"), none, (.func (PySem.W.fnOf (PySem.Str.ofString "moment_at") (PySem.Str.ofString "Book.moment_at") (defArgs (inClass (topR 68) 18)) (defBody (inClass (topR 68) 18)) (defScope (inClass (topR 68) 18)) .none .none .none (.str (PySem.Str.ofString "opencalls.books") 850) none (.ref 627) .none)), #[]⟩) ::
  (nat_lit 634, ⟨(.type "code"), none, (.fields #[(.str (PySem.Str.ofString "moment_of") 1021), (.str (PySem.Str.ofString "Book.moment_of") 1022), (.str (PySem.Str.ofString "/claim/cut.py") 1023), (.int (302) 0), (.int (4) 0), (.int (0) 0), (.int (0) 0), (.int (3) 0), (.ref 629), (.bool true), (.int (181) 0), (.ref 630), .none, (.ref 631), (.ref 632), (.ref 633), (.int (1029) 0), (.int (302) 0), (.str (PySem.Str.ofString "/claim/cut.py") 1030)]), #[]⟩) ::
  (nat_lit 635, ⟨(.type "function"), none, (.func (PySem.W.fnOf (PySem.Str.ofString "moment_of") (PySem.Str.ofString "Book.moment_of") (defArgs (inClass (topR 68) 19)) (defBody (inClass (topR 68) 19)) (defScope (inClass (topR 68) 19)) .none .none .none (.str (PySem.Str.ofString "opencalls.books") 850) none (.ref 634) .none)), #[]⟩) ::
  (nat_lit 636, ⟨(.type "dict"), none, (.dict (List.toArray (⟨PySem.PyData.keyHash P (PySem.Str.ofString "at"), .str (PySem.Str.ofString "at") 1032, .none⟩ :: [])) 1), #[]⟩) ::
  (nat_lit 642, ⟨(.type "code"), none, (.fields #[(.str (PySem.Str.ofString "names") 1033), (.str (PySem.Str.ofString "Book.names") 1034), (.str (PySem.Str.ofString "/claim/cut.py") 1035), (.int (307) 0), (.int (1) 0), (.int (0) 0), (.int (1) 0), (.int (3) 0), (.ref 637), (.bool true), (.int (181) 0), (.ref 638), .none, (.ref 639), (.ref 640), (.ref 641), (.int (1038) 0), (.int (307) 0), (.str (PySem.Str.ofString "/claim/cut.py") 1039)]), #[]⟩) ::
  (nat_lit 643, ⟨(.type "function"), none, (.func (PySem.W.fnOf (PySem.Str.ofString "names") (PySem.Str.ofString "Book.names") (defArgs (inClass (topR 68) 20)) (defBody (inClass (topR 68) 20)) (defScope (inClass (topR 68) 20)) .none (.ref 636) .none (.str (PySem.Str.ofString "opencalls.books") 850) none (.ref 642) .none)), #[]⟩) ::
  (nat_lit 644, ⟨(.type "dict"), none, (.dict (List.toArray (⟨PySem.PyData.keyHash P (PySem.Str.ofString "at"), .str (PySem.Str.ofString "at") 1041, .none⟩ :: [])) 1), #[]⟩) ::
  (nat_lit 650, ⟨(.type "code"), none, (.fields #[(.str (PySem.Str.ofString "heard") 1042), (.str (PySem.Str.ofString "Book.heard") 1043), (.str (PySem.Str.ofString "/claim/cut.py") 1044), (.int (310) 0), (.int (2) 0), (.int (0) 0), (.int (1) 0), (.int (3) 0), (.ref 645), (.bool true), (.int (181) 0), (.ref 646), .none, (.ref 647), (.ref 648), (.ref 649), (.int (1048) 0), (.int (310) 0), (.str (PySem.Str.ofString "/claim/cut.py") 1049)]), #[]⟩) ::
  (nat_lit 651, ⟨(.type "function"), none, (.func (PySem.W.fnOf (PySem.Str.ofString "heard") (PySem.Str.ofString "Book.heard") (defArgs (inClass (topR 68) 21)) (defBody (inClass (topR 68) 21)) (defScope (inClass (topR 68) 21)) .none (.ref 644) .none (.str (PySem.Str.ofString "opencalls.books") 850) none (.ref 650) .none)), #[]⟩) ::
  (nat_lit 652, ⟨(.type "dict"), none, (.dict (List.toArray (⟨PySem.PyData.keyHash P (PySem.Str.ofString "at"), .str (PySem.Str.ofString "at") 1051, .none⟩ :: [])) 1), #[]⟩) ::
  (nat_lit 658, ⟨(.type "code"), none, (.fields #[(.str (PySem.Str.ofString "known") 1052), (.str (PySem.Str.ofString "Book.known") 1053), (.str (PySem.Str.ofString "/claim/cut.py") 1054), (.int (313) 0), (.int (2) 0), (.int (0) 0), (.int (1) 0), (.int (3) 0), (.ref 653), (.bool true), (.int (181) 0), (.ref 654), .none, (.ref 655), (.ref 656), (.ref 657), (.int (1058) 0), (.int (313) 0), (.str (PySem.Str.ofString "/claim/cut.py") 1059)]), #[]⟩) ::
  (nat_lit 659, ⟨(.type "function"), none, (.func (PySem.W.fnOf (PySem.Str.ofString "known") (PySem.Str.ofString "Book.known") (defArgs (inClass (topR 68) 22)) (defBody (inClass (topR 68) 22)) (defScope (inClass (topR 68) 22)) .none (.ref 652) .none (.str (PySem.Str.ofString "opencalls.books") 850) none (.ref 658) .none)), #[]⟩) ::
  (nat_lit 660, ⟨(.type "dict"), none, (.dict (List.toArray (⟨PySem.PyData.keyHash P (PySem.Str.ofString "at"), .str (PySem.Str.ofString "at") 1061, .none⟩ :: [])) 1), #[]⟩) ::
  (nat_lit 668, ⟨(.type "dict"), none, (.dict (List.toArray (⟨PySem.PyData.keyHash P (PySem.Str.ofString "at"), .str (PySem.Str.ofString "at") 1071, .none⟩ :: [])) 1), #[]⟩) ::
  (nat_lit 676, ⟨(.type "dict"), none, (.dict (List.toArray (⟨PySem.PyData.keyHash P (PySem.Str.ofString "at"), .str (PySem.Str.ofString "at") 1083, .none⟩ :: [])) 1), #[]⟩) ::
  (nat_lit 712, ⟨(.type "dict"), none, (.dict (List.toArray (⟨PySem.PyData.keyHash P (PySem.Str.ofString "at"), .str (PySem.Str.ofString "at") 1125, .none⟩ :: [])) 1), #[]⟩) ::
  (nat_lit 721, ⟨(.type "dict"), none, (.dict (List.toArray (⟨PySem.PyData.keyHash P (PySem.Str.ofString "__module__"), .str (PySem.Str.ofString "__module__") 861, (.str (PySem.Str.ofString "opencalls.books") 850)⟩ :: ⟨PySem.PyData.keyHash P (PySem.Str.ofString "__firstlineno__"), .str (PySem.Str.ofString "__firstlineno__") 865, (.int (219) 864)⟩ :: ⟨PySem.PyData.keyHash P (PySem.Str.ofString "__init__"), .str (PySem.Str.ofString "__init__") 875, (.ref 501)⟩ :: ⟨PySem.PyData.keyHash P (PySem.Str.ofString "__eq__"), .str (PySem.Str.ofString "__eq__") 883, (.ref 508)⟩ :: ⟨PySem.PyData.keyHash P (PySem.Str.ofString "__len__"), .str (PySem.Str.ofString "__len__") 890, (.ref 515)⟩ :: ⟨PySem.PyData.keyHash P (PySem.Str.ofString "__str__"), .str (PySem.Str.ofString "__str__") 897, (.ref 522)⟩ :: ⟨PySem.PyData.keyHash P (PySem.Str.ofString "now"), .str (PySem.Str.ofString "now") 904, (.ref 529)⟩ :: ⟨PySem.PyData.keyHash P (PySem.Str.ofString "refuse_amid"), .str (PySem.Str.ofString "refuse_amid") 911, (.ref 536)⟩ :: ⟨PySem.PyData.keyHash P (PySem.Str.ofString "perform"), .str (PySem.Str.ofString "perform") 920, (.ref 543)⟩ :: ⟨PySem.PyData.keyHash P (PySem.Str.ofString "call"), .str (PySem.Str.ofString "call") 929, (.ref 550)⟩ :: ⟨PySem.PyData.keyHash P (PySem.Str.ofString "whisper"), .str (PySem.Str.ofString "whisper") 938, (.ref 557)⟩ :: ⟨PySem.PyData.keyHash P (PySem.Str.ofString "meet"), .str (PySem.Str.ofString "meet") 946, (.ref 564)⟩ :: ⟨PySem.PyData.keyHash P (PySem.Str.ofString "hide"), .str (PySem.Str.ofString "hide") 953, (.ref 571)⟩ :: ⟨PySem.PyData.keyHash P (PySem.Str.ofString "change"), .str (PySem.Str.ofString "change") 962, (.ref 578)⟩ :: ⟨PySem.PyData.keyHash P (PySem.Str.ofString "come"), .str (PySem.Str.ofString "come") 971, (.ref 585)⟩ :: ⟨PySem.PyData.keyHash P (PySem.Str.ofString "go"), .str (PySem.Str.ofString "go") 979, (.ref 592)⟩ :: ⟨PySem.PyData.keyHash P (PySem.Str.ofString "back"), .str (PySem.Str.ofString "back") 986, (.ref 599)⟩ :: ⟨PySem.PyData.keyHash P (PySem.Str.ofString "tried"), .str (PySem.Str.ofString "tried") 996, (.ref 607)⟩ :: ⟨PySem.PyData.keyHash P (PySem.Str.ofString "perform_all"), .str (PySem.Str.ofString "perform_all") 1005, (.ref 614)⟩ :: ⟨PySem.PyData.keyHash P (PySem.Str.ofString "log"), .str (PySem.Str.ofString "log") 1012, (.ref 621)⟩ :: ⟨PySem.PyData.keyHash P (PySem.Str.ofString "moment_at"), .str (PySem.Str.ofString "moment_at") 1020, (.ref 628)⟩ :: ⟨PySem.PyData.keyHash P (PySem.Str.ofString "moment_of"), .str (PySem.Str.ofString "moment_of") 1031, (.ref 635)⟩ :: ⟨PySem.PyData.keyHash P (PySem.Str.ofString "names"), .str (PySem.Str.ofString "names") 1040, (.ref 643)⟩ :: ⟨PySem.PyData.keyHash P (PySem.Str.ofString "heard"), .str (PySem.Str.ofString "heard") 1050, (.ref 651)⟩ :: ⟨PySem.PyData.keyHash P (PySem.Str.ofString "known"), .str (PySem.Str.ofString "known") 1060, (.ref 659)⟩ :: ⟨PySem.PyData.keyHash P (PySem.Str.ofString "common"), .str (PySem.Str.ofString "common") 1070, (.ref 667)⟩ :: ⟨PySem.PyData.keyHash P (PySem.Str.ofString "knows"), .str (PySem.Str.ofString "knows") 1082, (.ref 675)⟩ :: ⟨PySem.PyData.keyHash P (PySem.Str.ofString "why"), .str (PySem.Str.ofString "why") 1093, (.ref 683)⟩ :: ⟨PySem.PyData.keyHash P (PySem.Str.ofString "learned"), .str (PySem.Str.ofString "learned") 1101, (.ref 690)⟩ :: ⟨PySem.PyData.keyHash P (PySem.Str.ofString "idle"), .str (PySem.Str.ofString "idle") 1108, (.ref 697)⟩ :: ⟨PySem.PyData.keyHash P (PySem.Str.ofString "is_idle"), .str (PySem.Str.ofString "is_idle") 1117, (.ref 704)⟩ :: ⟨PySem.PyData.keyHash P (PySem.Str.ofString "its_deeds"), .str (PySem.Str.ofString "its_deeds") 1124, (.ref 711)⟩ :: ⟨PySem.PyData.keyHash P (PySem.Str.ofString "stand"), .str (PySem.Str.ofString "stand") 1133, (.ref 719)⟩ :: ⟨PySem.PyData.keyHash P (PySem.Str.ofString "__static_attributes__"), .str (PySem.Str.ofString "__static_attributes__") 1139, (.ref 720)⟩ :: ⟨PySem.PyData.keyHash P (PySem.Str.ofString "__dict__"), .str (PySem.Str.ofString "__dict__") 1141, (.ref 723)⟩ :: ⟨PySem.PyData.keyHash P (PySem.Str.ofString "__weakref__"), .str (PySem.Str.ofString "__weakref__") 1143, (.ref 724)⟩ :: ⟨PySem.PyData.keyHash P (PySem.Str.ofString "__doc__"), .str (PySem.Str.ofString "__doc__") 1144, .none⟩ :: ⟨PySem.PyData.keyHash P (PySem.Str.ofString "__hash__"), .str (PySem.Str.ofString "__hash__") 1145, .none⟩ :: [])) 5), #[]⟩) ::
  (nat_lit 722, ⟨(.type "type"), none, (.cls { name := (PySem.Str.ofString "Book"), bases := [(.type "object")], mro := [(.ref 722), (.type "object")], ns := 721, qualname := (PySem.Str.ofString "Book"), hasDict := true, slotNames := [], subclasses := [], abstract := false, collection := none, hasDel := false }), #[none, none, (some (.str (PySem.Str.ofString "Book") 854)), (some (.str (PySem.Str.ofString "Book") 862)), (some (.builtin "object.__new__")), (some (.bool true))]⟩) ::
  (nat_lit 723, ⟨(.type "getset_descriptor"), none, (.fields #[(.str (PySem.Str.ofString "__dict__") 1140), (.ref 722), (.builtin "function.__dict__"), (.builtin "function.__dict__#set")]), #[]⟩) ::
  (nat_lit 724, ⟨(.type "getset_descriptor"), none, (.fields #[(.str (PySem.Str.ofString "__weakref__") 1142), (.ref 722), (.builtin "ExceptionGroup.__weakref__"), .none]), #[]⟩) ::
  (nat_lit 730, ⟨(.type "code"), none, (.fields #[(.str (PySem.Str.ofString "_law_deck") 1150), (.str (PySem.Str.ofString "_law_deck") 1151), (.str (PySem.Str.ofString "/claim/cut.py") 1152), (.int (342) 0), (.int (1) 0), (.int (0) 0), (.int (0) 0), (.int (3) 0), (.ref 727), (.bool true), (.int (181) 0), (.ref 728), .none, .none, .none, (.ref 729), (.int (1153) 0), (.int (342) 0), (.str (PySem.Str.ofString "/claim/cut.py") 1154)]), #[]⟩) ::
  (nat_lit 731, ⟨(.type "function"), none, (.func (PySem.W.fnOf (PySem.Str.ofString "_law_deck") (PySem.Str.ofString "_law_deck") (defArgs (topR 70)) (defBody (topR 70)) (defScope (topR 70)) .none .none .none (.str (PySem.Str.ofString "law_opencalls_k16_calls_heard") 1148) none (.ref 730) .none)), #[]⟩) ::
  (nat_lit 737, ⟨(.type "code"), none, (.fields #[(.str (PySem.Str.ofString "_law_draw") 1156), (.str (PySem.Str.ofString "_law_draw") 1157), (.str (PySem.Str.ofString "/claim/cut.py") 1158), (.int (344) 0), (.int (2) 0), (.int (0) 0), (.int (0) 0), (.int (3) 0), (.ref 732), (.bool true), (.int (181) 0), (.ref 733), .none, (.ref 734), (.ref 735), (.ref 736), (.int (1163) 0), (.int (344) 0), (.str (PySem.Str.ofString "/claim/cut.py") 1164)]), #[]⟩) ::
  (nat_lit 738, ⟨(.type "function"), none, (.func (PySem.W.fnOf (PySem.Str.ofString "_law_draw") (PySem.Str.ofString "_law_draw") (defArgs (topR 71)) (defBody (topR 71)) (defScope (topR 71)) .none .none .none (.str (PySem.Str.ofString "law_opencalls_k16_calls_heard") 1148) none (.ref 737) .none)), #[]⟩) ::
  (nat_lit 742, ⟨(.type "code"), none, (.fields #[(.str (PySem.Str.ofString "_law_names") 1166), (.str (PySem.Str.ofString "_law_names") 1167), (.str (PySem.Str.ofString "/claim/cut.py") 1168), (.int (355) 0), (.int (2) 0), (.int (0) 0), (.int (0) 0), (.int (3) 0), (.ref 739), (.bool true), (.int (181) 0), (.ref 740), .none, .none, .none, (.ref 741), (.int (1169) 0), (.int (355) 0), (.str (PySem.Str.ofString "/claim/cut.py") 1170)]), #[]⟩) ::
  (nat_lit 743, ⟨(.type "function"), none, (.func (PySem.W.fnOf (PySem.Str.ofString "_law_names") (PySem.Str.ofString "_law_names") (defArgs (topR 72)) (defBody (topR 72)) (defScope (topR 72)) .none .none .none (.str (PySem.Str.ofString "law_opencalls_k16_calls_heard") 1148) none (.ref 742) .none)), #[]⟩) ::
  (nat_lit 747, ⟨(.type "code"), none, (.fields #[(.str (PySem.Str.ofString "_law_row") 1172), (.str (PySem.Str.ofString "_law_row") 1173), (.str (PySem.Str.ofString "/claim/cut.py") 1174), (.int (363) 0), (.int (3) 0), (.int (0) 0), (.int (0) 0), (.int (3) 0), (.ref 744), (.bool true), (.int (181) 0), (.ref 745), .none, .none, .none, (.ref 746), (.int (1175) 0), (.int (363) 0), (.str (PySem.Str.ofString "/claim/cut.py") 1176)]), #[]⟩) ::
  (nat_lit 748, ⟨(.type "function"), none, (.func (PySem.W.fnOf (PySem.Str.ofString "_law_row") (PySem.Str.ofString "_law_row") (defArgs (topR 73)) (defBody (topR 73)) (defScope (topR 73)) .none .none .none (.str (PySem.Str.ofString "law_opencalls_k16_calls_heard") 1148) none (.ref 747) .none)), #[]⟩) ::
  (nat_lit 752, ⟨(.type "code"), none, (.fields #[(.str (PySem.Str.ofString "_law_left") 1178), (.str (PySem.Str.ofString "_law_left") 1179), (.str (PySem.Str.ofString "/claim/cut.py") 1180), (.int (373) 0), (.int (3) 0), (.int (0) 0), (.int (0) 0), (.int (3) 0), (.ref 749), (.bool true), (.int (181) 0), (.ref 750), .none, .none, .none, (.ref 751), (.int (1181) 0), (.int (373) 0), (.str (PySem.Str.ofString "/claim/cut.py") 1182)]), #[]⟩) ::
  (nat_lit 753, ⟨(.type "function"), none, (.func (PySem.W.fnOf (PySem.Str.ofString "_law_left") (PySem.Str.ofString "_law_left") (defArgs (topR 74)) (defBody (topR 74)) (defScope (topR 74)) .none .none .none (.str (PySem.Str.ofString "law_opencalls_k16_calls_heard") 1148) none (.ref 752) .none)), #[]⟩) ::
  (nat_lit 757, ⟨(.type "code"), none, (.fields #[(.str (PySem.Str.ofString "_law_plain") 1184), (.str (PySem.Str.ofString "_law_plain") 1185), (.str (PySem.Str.ofString "/claim/cut.py") 1186), (.int (380) 0), (.int (2) 0), (.int (0) 0), (.int (0) 0), (.int (3) 0), (.ref 754), (.bool true), (.int (181) 0), (.ref 755), .none, .none, .none, (.ref 756), (.int (1187) 0), (.int (380) 0), (.str (PySem.Str.ofString "/claim/cut.py") 1188)]), #[]⟩) ::
  (nat_lit 758, ⟨(.type "function"), none, (.func (PySem.W.fnOf (PySem.Str.ofString "_law_plain") (PySem.Str.ofString "_law_plain") (defArgs (topR 75)) (defBody (topR 75)) (defScope (topR 75)) .none .none .none (.str (PySem.Str.ofString "law_opencalls_k16_calls_heard") 1148) none (.ref 757) .none)), #[]⟩) ::
  (nat_lit 764, ⟨(.type "code"), none, (.fields #[(.str (PySem.Str.ofString "_law_within") 1190), (.str (PySem.Str.ofString "_law_within") 1191), (.str (PySem.Str.ofString "/claim/cut.py") 1192), (.int (390) 0), (.int (3) 0), (.int (0) 0), (.int (0) 0), (.int (3) 0), (.ref 759), (.bool true), (.int (181) 0), (.ref 760), .none, (.ref 761), (.ref 762), (.ref 763), (.int (1196) 0), (.int (390) 0), (.str (PySem.Str.ofString "/claim/cut.py") 1197)]), #[]⟩) ::
  (nat_lit 765, ⟨(.type "function"), none, (.func (PySem.W.fnOf (PySem.Str.ofString "_law_within") (PySem.Str.ofString "_law_within") (defArgs (topR 76)) (defBody (topR 76)) (defScope (topR 76)) .none .none .none (.str (PySem.Str.ofString "law_opencalls_k16_calls_heard") 1148) none (.ref 764) .none)), #[]⟩) ::
  (nat_lit 769, ⟨(.type "code"), none, (.fields #[(.str (PySem.Str.ofString "_law_made_of") 1199), (.str (PySem.Str.ofString "_law_made_of") 1200), (.str (PySem.Str.ofString "/claim/cut.py") 1201), (.int (392) 0), (.int (4) 0), (.int (0) 0), (.int (0) 0), (.int (3) 0), (.ref 766), (.bool true), (.int (181) 0), (.ref 767), .none, .none, .none, (.ref 768), (.int (1202) 0), (.int (392) 0), (.str (PySem.Str.ofString "/claim/cut.py") 1203)]), #[]⟩) ::
  (nat_lit 770, ⟨(.type "function"), none, (.func (PySem.W.fnOf (PySem.Str.ofString "_law_made_of") (PySem.Str.ofString "_law_made_of") (defArgs (topR 77)) (defBody (topR 77)) (defScope (topR 77)) .none .none .none (.str (PySem.Str.ofString "law_opencalls_k16_calls_heard") 1148) none (.ref 769) .none)), #[]⟩) ::
  (nat_lit 774, ⟨(.type "code"), none, (.fields #[(.str (PySem.Str.ofString "_law_begun") 1205), (.str (PySem.Str.ofString "_law_begun") 1206), (.str (PySem.Str.ofString "/claim/cut.py") 1207), (.int (397) 0), (.int (2) 0), (.int (0) 0), (.int (0) 0), (.int (3) 0), (.ref 771), (.bool true), (.int (181) 0), (.ref 772), .none, .none, .none, (.ref 773), (.int (1208) 0), (.int (397) 0), (.str (PySem.Str.ofString "/claim/cut.py") 1209)]), #[]⟩) ::
  (nat_lit 775, ⟨(.type "function"), none, (.func (PySem.W.fnOf (PySem.Str.ofString "_law_begun") (PySem.Str.ofString "_law_begun") (defArgs (topR 78)) (defBody (topR 78)) (defScope (topR 78)) .none .none .none (.str (PySem.Str.ofString "law_opencalls_k16_calls_heard") 1148) none (.ref 774) .none)), #[]⟩) ::
  (nat_lit 781, ⟨(.type "code"), none, (.fields #[(.str (PySem.Str.ofString "_law_model") 1211), (.str (PySem.Str.ofString "_law_model") 1212), (.str (PySem.Str.ofString "/claim/cut.py") 1213), (.int (404) 0), (.int (1) 0), (.int (0) 0), (.int (0) 0), (.int (3) 0), (.ref 776), (.bool true), (.int (181) 0), (.ref 777), .none, (.ref 778), (.ref 779), (.ref 780), (.int (1215) 0), (.int (404) 0), (.str (PySem.Str.ofString "/claim/cut.py") 1216)]), #[]⟩) ::
  (nat_lit 782, ⟨(.type "function"), none, (.func (PySem.W.fnOf (PySem.Str.ofString "_law_model") (PySem.Str.ofString "_law_model") (defArgs (topR 79)) (defBody (topR 79)) (defScope (topR 79)) .none .none .none (.str (PySem.Str.ofString "law_opencalls_k16_calls_heard") 1148) none (.ref 781) .none)), #[]⟩) ::
  (nat_lit 788, ⟨(.type "code"), none, (.fields #[(.str (PySem.Str.ofString "_law_rows_by") 1218), (.str (PySem.Str.ofString "_law_rows_by") 1219), (.str (PySem.Str.ofString "/claim/cut.py") 1220), (.int (406) 0), (.int (2) 0), (.int (0) 0), (.int (0) 0), (.int (3) 0), (.ref 783), (.bool true), (.int (181) 0), (.ref 784), .none, (.ref 785), (.ref 786), (.ref 787), (.int (1225) 0), (.int (406) 0), (.str (PySem.Str.ofString "/claim/cut.py") 1226)]), #[]⟩) ::
  (nat_lit 789, ⟨(.type "function"), none, (.func (PySem.W.fnOf (PySem.Str.ofString "_law_rows_by") (PySem.Str.ofString "_law_rows_by") (defArgs (topR 80)) (defBody (topR 80)) (defScope (topR 80)) .none .none .none (.str (PySem.Str.ofString "law_opencalls_k16_calls_heard") 1148) none (.ref 788) .none)), #[]⟩) ::
  (nat_lit 795, ⟨(.type "code"), none, (.fields #[(.str (PySem.Str.ofString "_law_room_by") 1228), (.str (PySem.Str.ofString "_law_room_by") 1229), (.str (PySem.Str.ofString "/claim/cut.py") 1230), (.int (413) 0), (.int (2) 0), (.int (0) 0), (.int (0) 0), (.int (3) 0), (.ref 790), (.bool true), (.int (181) 0), (.ref 791), .none, (.ref 792), (.ref 793), (.ref 794), (.int (1233) 0), (.int (413) 0), (.str (PySem.Str.ofString "/claim/cut.py") 1234)]), #[]⟩) ::
  (nat_lit 796, ⟨(.type "function"), none, (.func (PySem.W.fnOf (PySem.Str.ofString "_law_room_by") (PySem.Str.ofString "_law_room_by") (defArgs (topR 81)) (defBody (topR 81)) (defScope (topR 81)) .none .none .none (.str (PySem.Str.ofString "law_opencalls_k16_calls_heard") 1148) none (.ref 795) .none)), #[]⟩) ::
  (nat_lit 802, ⟨(.type "code"), none, (.fields #[(.str (PySem.Str.ofString "_law_called") 1236), (.str (PySem.Str.ofString "_law_called") 1237), (.str (PySem.Str.ofString "/claim/cut.py") 1238), (.int (415) 0), (.int (3) 0), (.int (0) 0), (.int (0) 0), (.int (3) 0), (.ref 797), (.bool true), (.int (181) 0), (.ref 798), .none, (.ref 799), (.ref 800), (.ref 801), (.int (1244) 0), (.int (415) 0), (.str (PySem.Str.ofString "/claim/cut.py") 1245)]), #[]⟩) ::
  (nat_lit 803, ⟨(.type "function"), none, (.func (PySem.W.fnOf (PySem.Str.ofString "_law_called") (PySem.Str.ofString "_law_called") (defArgs (topR 82)) (defBody (topR 82)) (defScope (topR 82)) .none .none .none (.str (PySem.Str.ofString "law_opencalls_k16_calls_heard") 1148) none (.ref 802) .none)), #[]⟩) ::
  (nat_lit 807, ⟨(.type "code"), none, (.fields #[(.str (PySem.Str.ofString "_law_all_right") 1247), (.str (PySem.Str.ofString "_law_all_right") 1248), (.str (PySem.Str.ofString "/claim/cut.py") 1249), (.int (422) 0), (.int (2) 0), (.int (0) 0), (.int (0) 0), (.int (3) 0), (.ref 804), (.bool true), (.int (181) 0), (.ref 805), .none, .none, .none, (.ref 806), (.int (1250) 0), (.int (422) 0), (.str (PySem.Str.ofString "/claim/cut.py") 1251)]), #[]⟩) ::
  (nat_lit 808, ⟨(.type "function"), none, (.func (PySem.W.fnOf (PySem.Str.ofString "_law_all_right") (PySem.Str.ofString "_law_all_right") (defArgs (topR 83)) (defBody (topR 83)) (defScope (topR 83)) .none .none .none (.str (PySem.Str.ofString "law_opencalls_k16_calls_heard") 1148) none (.ref 807) .none)), #[]⟩) ::
  (nat_lit 812, ⟨(.type "code"), none, (.fields #[(.str (PySem.Str.ofString "law") 1253), (.str (PySem.Str.ofString "law") 1254), (.str (PySem.Str.ofString "/claim/cut.py") 1255), (.int (428) 0), (.int (1) 0), (.int (0) 0), (.int (0) 0), (.int (3) 0), (.ref 809), (.bool true), (.int (181) 0), (.ref 810), .none, .none, .none, (.ref 811), (.int (1256) 0), (.int (428) 0), (.str (PySem.Str.ofString "/claim/cut.py") 1257)]), #[]⟩) ::
  (nat_lit 813, ⟨(.type "function"), none, (.func (PySem.W.fnOf (PySem.Str.ofString "law") (PySem.Str.ofString "law") (defArgs (topR 84)) (defBody (topR 84)) (defScope (topR 84)) .none .none .none (.str (PySem.Str.ofString "law_opencalls_k16_calls_heard") 1148) none (.ref 812) .none)), #[]⟩) ::
  []
def as0 : List Addr := 2 :: 3 :: 30 :: 31 :: 32 :: 43 :: 44 :: 59 :: 60 :: 62 :: 63 :: 74 :: 75 :: 86 :: 87 :: 105 :: 106 :: 117 :: 118 :: 136 :: 137 :: 155 :: 156 :: 167 :: 168 :: 179 :: 180 :: 191 :: 192 :: 203 :: 204 :: 222 :: 223 :: 224 :: 242 :: 243 :: 244 :: 250 :: 251 :: 255 :: 256 :: 260 :: 261 :: 267 :: 268 :: 274 :: 275 :: 281 :: 282 :: 286 :: 287 :: 291 :: 292 :: 296 :: 297 :: 303 :: 304 :: 310 :: 311 :: 317 :: 318 :: 324 :: 325 :: 329 :: 330 :: 336 :: 337 :: 343 :: 344 :: 350 :: 351 :: 355 :: 356 :: 362 :: 363 :: 369 :: 370 :: 376 :: 377 :: 390 :: 391 :: 393 :: 394 :: 395 :: 396 :: 402 :: 403 :: 409 :: 410 :: 416 :: 417 :: 426 :: 427 :: 431 :: 432 :: 436 :: 437 :: 441 :: 442 :: 446 :: 447 :: 451 :: 452 :: 456 :: 457 :: 461 :: 462 :: 466 :: 467 :: 473 :: 474 :: 478 :: 479 :: 480 :: 486 :: 487 :: 500 :: 501 :: 528 :: 529 :: 535 :: 536 :: 542 :: 543 :: 549 :: 550 :: 600 :: 627 :: 628 :: 634 :: 635 :: 636 :: 642 :: 643 :: 644 :: 650 :: 651 :: 652 :: 658 :: 659 :: 660 :: 668 :: 676 :: 712 :: 721 :: 722 :: 723 :: 724 :: 730 :: 731 :: 737 :: 738 :: 742 :: 743 :: 747 :: 748 :: 752 :: 753 :: 757 :: 758 :: 764 :: 765 :: 769 :: 770 :: 774 :: 775 :: 781 :: 782 :: 788 :: 789 :: 795 :: 796 :: 802 :: 803 :: 807 :: 808 :: 812 :: 813 :: []
theorem as_ok (P : PySem.Params) : as0 = (K0 P).map (·.1) := by kernel_rfl
def names : List PySem.Str := (["_wall", "CallError", "NoRow", "NotKnown", "NoGroup", "Full", "NoPlace", "NoTurn", "NoName", "Taken", "Few", "NothingBack"] : List PySem.Str) ++ (["Long", "Busy", "NoHand", "NoMoment", "LETTERS", "is_name", "is_rising", "are_names", "is_number", "is_rest", "contrary", "is_row"] : List PySem.Str) ++ (["added", "times", "check_hand", "check_hands", "check_row", "led", "is_noughts", "first_place", "cleared", "left_of", "widened", "room_of"] : List PySem.Str) ++ (["within", "needed", "Moment", "names_at", "heard_at", "known_at", "stand_at", "are_first_rows", "after_call", "after_whisper", "after_meet", "news"] : List PySem.Str) ++ (["after_hide", "longer", "after_change", "all_led", "after_come", "after_go", "STEPS", "after", "DEEDS", "Book", "_law_deck", "_law_draw"] : List PySem.Str) ++ (["_law_names", "_law_row", "_law_left", "_law_plain", "_law_within", "_law_made_of", "_law_begun", "_law_model", "_law_rows_by", "_law_room_by", "_law_called", "_law_all_right"] : List PySem.Str)
abbrev R : PySem.W.OpenRow := PySem.W.OpenLaw.row PySem.Challenge.rw_opencalls_k16_calls_heard
abbrev hk : PySem.W.Hook := PySem.W.kHook K0 as0 as_ok
def ob (s : PySem.W.SharedT) : List (Option Obj) := as0.map (HandSHeadRun.getT s)
theorem ob_eq (s : PySem.W.SharedT) : ob s = hk.obs s.abs := by
  have e : HandSHeadRun.getT s = s.abs.heap.get? := funext (HandSHeadRun.getT_eq s)
  unfold ob
  rw [e]
  rfl
def RE (w : World) : Prop := HandSHeadRun.RunEq R (PySem.W.view R.prog [84]) hk ob 20000 names w
set_option maxHeartbeats 0 in
theorem run_f (w : World) : RE (w.withFollow "special-get-raises" false) := by
  intro os
  kernel_rfl
set_option maxHeartbeats 0 in
theorem run_t (w : World) : RE (w.withFollow "special-get-raises" true) := by
  intro os
  kernel_rfl
theorem run (w : World) : RE w := PySem.W.byRow2 "special-get-raises" run_f run_t w
end OCR
set_option Elab.async false
set_option linter.all false
set_option maxRecDepth 100000
namespace OC
open PySem PySem.Spec PyProof.Rows L2
/-! ### defs and their promises, by name -/
structure Df (K : PySem.W.Frag) (mg : Str → Option Value) (x : Str) (st : Stmt) (ps : List Str) : Prop where
  ex : ∃ (f : Addr) (fd : FuncData), Fun K x x st f fd ∧ Binds K fd ps [] ∧ mg x = some (.ref f)
structure Ok (P : Program) (w : World) (K : PySem.W.Frag) (mg : Str → Option Value) (base : Heap) (k : Nat) (x : Str) (ps : List Str) (sp : Sp) : Prop where
  ex : ∃ (f : Addr) (fd : FuncData), FnOk P w K mg base CX0 k f fd ps sp ∧ mg x = some (.ref f) ∧ PySem.W.keepIn K (.ref f) = true ∧ Binds K fd ps []
section
variable {P : Program} {w : World} {K : PySem.W.Frag} {mg : Str → Option Value} {base : Heap}
theorem Df.ok {x : Str} {st : Stmt} {N ps : List Str} {k : Nat} {sp : Sp} (D : Df K mg x st ps) (S : FnScope N ps (defScope st)) (len : ∀ vs H Q E, sp vs H Q E → vs.length = ps.length)
    (hbody : ∀ (f : Addr) (cdv : Value) (A : Around) (outer : List Env) (s : Shared) (H : Hp) (vs : List V) (Q : VK) (E : XK), Room k (A.deeper (envOfC x (defScope st) s.heap.objs.size f cdv)) → sp vs H Q E →
      ∃ t, PSs (cxOf CX0 P w K mg base N x (defScope st) f cdv A outer s H E).nox (defBody st) t ∧ t { nx := fun _ H' => Q .non H', rt := Q } (start N vs) H) : Ok P w K mg base (k + 1) x ps sp := by
  obtain ⟨f, fd, F, b, g⟩ := D.ex
  exact ⟨f, fd, F.ok S len (hbody f), g, F.kp, b⟩
theorem Ok.mono {x : Str} {ps : List Str} {j k : Nat} {sp : Sp} (O : Ok P w K mg base j x ps sp) (h : j ≤ k) : Ok P w K mg base k x ps sp := by
  obtain ⟨f, fd, F, r⟩ := O.ex
  exact ⟨f, fd, F.mono h, r⟩
theorem Ok.imp {x : Str} {ps : List Str} {k : Nat} {sp sp' : Sp} (O : Ok P w K mg base k x ps sp) (h : ∀ vs H Q E, sp' vs H Q E → sp vs H Q E) : Ok P w K mg base k x ps sp' := by
  obtain ⟨f, fd, F, r⟩ := O.ex
  exact ⟨f, fd, F.imp h, r⟩
end
section
variable {X : Cx} {x : Str} {ps : List Str} {k : Nat} {sp : Sp}
theorem pe_callO {e : Expr} {es : List Expr} {t : TA} {p pos : Pos} (O : Ok X.prog X.w X.K X.mg X.base k x ps sp) (hr : Room k X.A) (hg : Gl X x) (ha : PA X (e :: es) t) (hdb : (x == ("__debug__" : Str)) = false := by decide)
    (he : starEach (e :: es) X.env = (false, eval e X.env) :: starEach es X.env := by rfl) (hpl : (backTo pos (starEach es X.env)).any (·.1) = false := by rfl) :
    PE X (.Call (.Name x p) (e :: es) [] pos) (tCall sp [] E0 t) := by
  obtain ⟨f, fd, F, g, kp, b⟩ := O.ex
  exact pe_call F hr hg g kp b .nil pass0 ha hdb he hpl
end
/-! ### from the head's facts -/
theorem df_of {K : PySem.W.Frag} {h : Heap} {mg : Str → Option Value} {x : Str} {st : Stmt} {ps : List Str} {f : Addr} {oc : Value} {od an : Option Addr} {osl : Array (Option Value)} {kV doc pm cdv ct : Value} (X : K.In h) (G : h.Ns mainGlobals mg)
    (a : PySem.W.nsIn K mainGlobals x = some (some (.ref f)))
    (l : K.lookup f = some ⟨oc, od, .func (PySem.W.fnOf x x (defArgs st) (defBody st) (defScope st) .none kV doc pm an cdv ct), osl⟩)
    (c : PySem.W.codeIn K cdv x = true) (k : PySem.W.keepIn K (.ref f) = true)
    (hb : ∀ (kV doc pm : Value) (an : Option Addr) (cdv ct : Value) (us : List Value), us.length = ps.length → bindArgs (PySem.W.fnOf x x (defArgs st) (defBody st) (defScope st) .none kV doc pm an cdv ct) ⟨us, []⟩ = pure (ps.zip us)) :
    Df K mg x st ps := by
  have F := fun_mk (st := st) l c k
  exact ⟨f, _, F, F.binds hb, PySem.W.mg_of X G a⟩
end OC
set_option Elab.async false
set_option linter.all false
set_option maxRecDepth 100000
namespace OC
open PySem PySem.Spec PyProof.Rows L2
/-! ### kinds of values -/
inductive Kd where
  | non | bl | int | str | lst | tup | dct
  deriving DecidableEq
def Kd.name : Kd → String
  | .non => "NoneType" | .bl => "bool" | .int => "int" | .str => "str" | .lst => "list" | .tup => "tuple" | .dct => "dict"
def KdOf (K : PySem.W.Frag) (H : Hp) (v : V) (k : Kd) : Prop := TyX K H v (.type k.name)
section
variable {K : PySem.W.Frag} {H : Hp}
theorem kd_int (i : Int) : KdOf K H (.int i) .int := .base (.int i)
theorem kd_bl (b : Bool) : KdOf K H (.bl b) .bl := .base (.bl b)
theorem kd_non : KdOf K H .non .non := .base .non
theorem kd_str (x : Str) : KdOf K H (.str x) .str := .base (.str x)
theorem kd_tup {a : Addr} {xs : List V} (h : SqT K H a xs) : KdOf K H (.ref a) .tup := by
  rcases h with (h | ⟨o, h⟩) | ⟨o, its, n, h, c, _⟩
  · exact .base (.tup h)
  · exact .fTuple h
  · exact .kTuple h c
theorem kd_lst {a : Addr} {xs : List V} (h : SqL K H a xs) : KdOf K H (.ref a) .lst := by
  rcases h with (h | ⟨o, h⟩) | ⟨o, its, n, h, c, _⟩
  · exact .base (.lst h)
  · exact .base (.frz h)
  · exact .kList h c
theorem kd_dct {a : Addr} {kvs : List (Key × V)} (h : H a = some (.dK kvs)) : KdOf K H (.ref a) .dct := .base (.dK h)
theorem kit_int (k : Kd) : PySem.W.kitOne K (.type k.name) (.type "int") = some (decide (k = .int) || decide (k = .bl)) := by
  cases k <;> exact kit_ty (by decide +kernel)
theorem kit_bool (k : Kd) : PySem.W.kitOne K (.type k.name) (.type "bool") = some (decide (k = .bl)) := by
  cases k <;> exact kit_ty (by decide +kernel)
theorem kit_tuple (k : Kd) : PySem.W.kitOne K (.type k.name) (.type "tuple") = some (decide (k = .tup)) := by
  cases k <;> exact kit_ty (by decide +kernel)
theorem kit_str (k : Kd) : PySem.W.kitOne K (.type k.name) (.type "str") = some (decide (k = .str)) := by
  cases k <;> exact kit_ty (by decide +kernel)
end
/-! ### heaps -/
theorem same_upd {H : Hp} {p : Addr} {o : HO} (h : H p = none) : Same H (upd H p o) := fun b x e => by
  rw [upd_ne (ne_of_none e h)]
  exact e
theorem same_mut {H H' : Hp} {p : Addr} {o : HO} (e : Same H H') (h : H p = none) : Same H (upd H' p o) := fun b x q => by
  rw [upd_ne (ne_of_none q h)]
  exact e b x q
theorem Same.tup {K : PySem.W.Frag} {H H' : Hp} {a : Addr} {xs : List V} (e : Same H H') (h : SqT K H a xs) : SqT K H' a xs := by
  rcases h with (h | ⟨o, h⟩) | h
  · exact .inl (.inl (e _ _ h))
  · exact .inl (.inr ⟨o, e _ _ h⟩)
  · exact .inr h
/-- all but the deck's two lists stays -/
def Kept (d c : Addr) (H H' : Hp) : Prop := ∀ b o, H b = some o → b ≠ d → b ≠ c → H' b = some o
theorem Kept.refl (d c : Addr) (H : Hp) : Kept d c H H := fun _ _ h _ _ => h
theorem Kept.trans {d c : Addr} {H H1 H2 : Hp} (a : Kept d c H H1) (b : Kept d c H1 H2) : Kept d c H H2 := fun x o h n m => b x o (a x o h n m) n m
theorem Kept.of {d c : Addr} {H H' : Hp} (a : Same H H') : Kept d c H H' := fun x o h _ _ => a x o h
/-- the deck: a list of the cells' list and the count of draws -/
structure Deck (H : Hp) (d c : Addr) (t : Int) : Prop where
  hd : H d = some (.lst [.ref c, .int t])
  hc : ∃ cells : List Int, H c = some (.lst (cells.map V.int)) ∧ (∀ x ∈ cells, 0 ≤ x) ∧ cells.length ≤ 63
  ne : c ≠ d
  t0 : 0 ≤ t
theorem Deck.same {H H' : Hp} {d c : Addr} {t : Int} (D : Deck H d c t) (s : Same H H') : Deck H' d c t := by
  obtain ⟨hd, ⟨cells, h1, h2⟩, n, t0⟩ := D
  exact ⟨s _ _ hd, ⟨cells, s _ _ h1, h2⟩, n, t0⟩
theorem Kept.tup {K : PySem.W.Frag} {d c : Addr} {t : Int} {H H' : Hp} {a : Addr} {xs : List V} (D : Deck H d c t) (e : Kept d c H H') (h : SqT K H a xs) : SqT K H' a xs := by
  obtain ⟨hd, ⟨cells, h1, h2⟩, n, t0⟩ := D
  rcases h with (h | ⟨o, h⟩) | h
  · exact .inl (.inl (e _ _ h (fun z => by subst z; rw [hd] at h; cases h) (fun z => by subst z; rw [h1] at h; cases h)))
  · exact .inl (.inr ⟨o, e _ _ h (fun z => by subst z; rw [hd] at h; cases h) (fun z => by subst z; rw [h1] at h; cases h)⟩)
  · exact .inr h
theorem at_int {xs : List Int} {z : Int} (h0 : 0 ≤ z) (h1 : z < (xs.length : Int)) : ∃ x, x ∈ xs ∧ xs[z.toNat]? = some x ∧ atI (xs.map V.int) z = some (.int x) := by
  have hl : z.toNat < xs.length := by omega
  refine ⟨xs[z.toNat], List.getElem_mem hl, List.getElem?_eq_getElem hl, ?_⟩
  refine at_of (j := z.toNat) (by omega) ?_
  rw [List.getElem?_map, List.getElem?_eq_getElem hl]
  rfl
theorem ix_nat {n : Nat} {z : Int} (h0 : 0 ≤ z) (h1 : z < (n : Int)) : ixN n z = some z.toNat := by
  unfold ixN
  rw [if_pos h0, if_pos h1]
end OC
set_option Elab.async false
set_option linter.all false
set_option maxRecDepth 100000
namespace OC
open PySem PySem.Spec PyProof.Rows L2
/-! ### readings by name -/
/-! ### data kept -/
mutual
theorem dp_same {K : PySem.W.Frag} {H H' : Hp} (e : Same H H') : ∀ (d : PyData) (v : V), Dp K H v d → Dp K H' v d
  | .none, _, h => by cases h; exact .non
  | .bool b, _, h => by cases h; exact .bl b
  | .int i, _, h => by cases h; exact .int i
  | .str x, _, h => by cases h; exact .str x
  | .list ds, _, h => by
    cases h with
    | lst hs ha => exact .lst (e.seq hs) (dpAll_same e ds _ ha)
  | .tuple ds, _, h => by
    cases h with
    | tup hs ha => exact .tup (Same.tup e hs) (dpAll_same e ds _ ha)
  | .dict _, _, h => by cases h
theorem dpAll_same {K : PySem.W.Frag} {H H' : Hp} (e : Same H H') : ∀ (ds : List PyData) (vs : List V), DpAll K H vs ds → DpAll K H' vs ds
  | [], _, h => by cases h; exact .nil
  | d :: ds, _, h => by
    cases h with
    | cons h1 h2 => exact .cons (dp_same e d _ h1) (dpAll_same e ds _ h2)
end
theorem dpAll_len {K : PySem.W.Frag} {H : Hp} : ∀ {vs : List V} {ds : List PyData}, DpAll K H vs ds → vs.length = ds.length
  | _, _, .nil => rfl
  | _, _, .cons _ t => by rw [List.length_cons, List.length_cons, dpAll_len t]
theorem dpAll_get {K : PySem.W.Frag} {H : Hp} : ∀ {vs : List V} {ds : List PyData} {i : Nat} {v : V}, DpAll K H vs ds → vs[i]? = some v → ∃ d, ds[i]? = some d ∧ d ∈ ds ∧ Dp K H v d
  | _, _, i, v, .nil, e => by simp at e
  | _, _, 0, v, .cons h t, e => by
    have e : _ = v := Option.some.inj e
    subst e
    exact ⟨_, rfl, List.mem_cons_self, h⟩
  | _, _, i + 1, v, .cons h t, e => by
    obtain ⟨d, h1, h2, h3⟩ := dpAll_get (i := i) (v := v) t e
    exact ⟨d, h1, List.mem_cons_of_mem _ h2, h3⟩
theorem dpAll_ints {K : PySem.W.Frag} {H : Hp} : ∀ ns : List Int, DpAll K H (ns.map V.int) (ns.map PyData.int)
  | [] => .nil
  | n :: r => .cons (.int n) (dpAll_ints r)
/-! ### any thing, with dicts: its kind -/
def keyD : Key → PyData
  | .inl i => .int i
  | .inr x => .str x
def flD : V → PyData
  | .bl b => .bool b | .int i => .int i | .str x => .str x | _ => .none
def flOk : V → Bool
  | .non => true | .bl _ => true | .int _ => true | .str _ => true | _ => false
mutual
inductive Rep (K : PySem.W.Frag) (H : Hp) (bad : Addr → Prop) : V → PyData → Prop
  | non : Rep K H bad .non .none
  | bl (b : Bool) : Rep K H bad (.bl b) (.bool b)
  | int (i : Int) : Rep K H bad (.int i) (.int i)
  | str (x : Str) : Rep K H bad (.str x) (.str x)
  | lst {a : Addr} {xs : List V} {ds : List PyData} : H a = some (.lst xs) → ¬ bad a → RepAll K H bad xs ds → Rep K H bad (.ref a) (.list ds)
  | tup {a : Addr} {xs : List V} {ds : List PyData} : SqT K H a xs → RepAll K H bad xs ds → Rep K H bad (.ref a) (.tuple ds)
  | dct {a : Addr} {kvs : List (Key × V)} : H a = some (.dK kvs) → (kvs.all fun p => flOk p.2) = true → Rep K H bad (.ref a) (.dict (kvs.map fun p => (keyD p.1, flD p.2)))
inductive RepAll (K : PySem.W.Frag) (H : Hp) (bad : Addr → Prop) : List V → List PyData → Prop
  | nil : RepAll K H bad [] []
  | cons {v : V} {vs : List V} {d : PyData} {ds : List PyData} : Rep K H bad v d → RepAll K H bad vs ds → RepAll K H bad (v :: vs) (d :: ds)
end
def kdOf : PyData → Kd
  | .none => .non | .bool _ => .bl | .int _ => .int | .str _ => .str | .list _ => .lst | .tuple _ => .tup | .dict _ => .dct
section
variable {K : PySem.W.Frag} {H : Hp} {bad : Addr → Prop}
theorem Rep.kd : ∀ {v : V} {d : PyData}, Rep K H bad v d → KdOf K H v (kdOf d)
  | _, _, .non => kd_non
  | _, _, .bl b => kd_bl b
  | _, _, .int i => kd_int i
  | _, _, .str x => kd_str x
  | _, _, .lst h _ _ => kd_lst (.inl (.inl h))
  | _, _, .tup h _ => kd_tup h
  | _, _, .dct h _ => kd_dct h
theorem repAll_len : ∀ {vs : List V} {ds : List PyData}, RepAll K H bad vs ds → vs.length = ds.length
  | _, _, .nil => rfl
  | _, _, .cons _ t => by rw [List.length_cons, List.length_cons, repAll_len t]
theorem repAll_get : ∀ {vs : List V} {ds : List PyData} {i : Nat} {v : V}, RepAll K H bad vs ds → vs[i]? = some v → ∃ d, ds[i]? = some d ∧ d ∈ ds ∧ Rep K H bad v d
  | _, _, i, v, .nil, e => by simp at e
  | _, _, 0, v, .cons h t, e => by
    have e : _ = v := Option.some.inj e
    subst e
    exact ⟨_, rfl, List.mem_cons_self, h⟩
  | _, _, i + 1, v, .cons h t, e => by
    obtain ⟨d, h1, h2, h3⟩ := repAll_get (i := i) (v := v) t e
    exact ⟨d, h1, List.mem_cons_of_mem _ h2, h3⟩
theorem repAll_append : ∀ {xs ys : List V} {ds es : List PyData}, RepAll K H bad xs ds → RepAll K H bad ys es → RepAll K H bad (xs ++ ys) (ds ++ es)
  | _, _, _, _, .nil, h => h
  | _, _, _, _, .cons h t, g => .cons h (repAll_append t g)
theorem repAll_ints : ∀ ns : List Int, RepAll K H bad (ns.map V.int) (ns.map PyData.int)
  | [] => .nil
  | n :: r => .cons (.int n) (repAll_ints r)
end
/-! ### tuples stay -/
def Tk (H H' : Hp) : Prop := ∀ (K : PySem.W.Frag) (a : Addr) (xs : List V), SqT K H a xs → SqT K H' a xs
theorem Tk.refl (H : Hp) : Tk H H := fun _ _ _ h => h
theorem Tk.trans {H H1 H2 : Hp} (a : Tk H H1) (b : Tk H1 H2) : Tk H H2 := fun K x xs h => b K x xs (a K x xs h)
theorem Tk.of {H H' : Hp} (s : Same H H') : Tk H H' := fun _ _ _ h => Same.tup s h
theorem Tk.kept {d c : Addr} {t : Int} {H H' : Hp} (D : Deck H d c t) (k : Kept d c H H') : Tk H H' := fun _ _ _ h => Kept.tup D k h
theorem Tk.mut {H H' : Hp} {D : Addr} {xs ys : List V} (k : Tk H H') (h : H' D = some (.lst xs)) : Tk H (upd H' D (.lst ys)) := fun K a zs q => by
  rcases k K a zs q with (q | ⟨o, q⟩) | q
  · refine .inl (.inl ?_)
    rw [upd_ne (fun z => by subst z; rw [h] at q; cases q)]
    exact q
  · refine .inl (.inr ⟨o, ?_⟩)
    rw [upd_ne (fun z => by subst z; rw [h] at q; cases q)]
    exact q
  · exact .inr q
theorem Tk.new {H H' : Hp} {D : Addr} {o : HO} (k : Tk H H') (h : H' D = none) : Tk H (upd H' D o) := k.trans (Tk.of (same_upd h))
/-- what stays of things: tuples and dicts all, lists but the bad ones -/
structure Stays (bad : Addr → Prop) (H H' : Hp) : Prop where
  t : Tk H H'
  d : ∀ a kvs, H a = some (.dK kvs) → H' a = some (.dK kvs)
  l : ∀ a xs, H a = some (.lst xs) → ¬ bad a → H' a = some (.lst xs)
theorem Stays.of {bad : Addr → Prop} {H H' : Hp} (s : Same H H') : Stays bad H H' := ⟨Tk.of s, fun _ _ h => s _ _ h, fun _ _ h _ => s _ _ h⟩
theorem Stays.trans {bad : Addr → Prop} {H H1 H2 : Hp} (a : Stays bad H H1) (b : Stays bad H1 H2) : Stays bad H H2 := ⟨a.t.trans b.t, fun x y h => b.d x y (a.d x y h), fun x y h n => b.l x y (a.l x y h n) n⟩
theorem Stays.kept {d c : Addr} {t : Int} {H H' : Hp} (D : Deck H d c t) (k : Kept d c H H') : Stays (fun a => a = d ∨ a = c) H H' := by
  refine ⟨Tk.kept D k, fun a xs h => k a _ h (fun z => ?_) (fun z => ?_), fun a xs h nb => k a _ h (fun z => nb (.inl z)) (fun z => nb (.inr z))⟩
  · subst z; rw [D.hd] at h; cases h
  · obtain ⟨cells, h1, _⟩ := D.hc
    subst z; rw [h1] at h; cases h
mutual
theorem rep_stays {K : PySem.W.Frag} {bad : Addr → Prop} {H H' : Hp} (e : Stays bad H H') : ∀ (d : PyData) (v : V), Rep K H bad v d → Rep K H' bad v d
  | .none, _, h => by cases h; exact .non
  | .bool b, _, h => by cases h; exact .bl b
  | .int i, _, h => by cases h; exact .int i
  | .str x, _, h => by cases h; exact .str x
  | .list ds, _, h => by
    cases h with
    | lst hs hb ha => exact .lst (e.l _ _ hs hb) hb (repAll_stays e ds _ ha)
  | .tuple ds, _, h => by
    cases h with
    | tup hs ha => exact .tup (e.t _ _ _ hs) (repAll_stays e ds _ ha)
  | .dict _, _, h => by
    cases h with
    | dct hs hf => exact .dct (e.d _ _ hs) hf
theorem repAll_stays {K : PySem.W.Frag} {bad : Addr → Prop} {H H' : Hp} (e : Stays bad H H') : ∀ (ds : List PyData) (vs : List V), RepAll K H bad vs ds → RepAll K H' bad vs ds
  | [], _, h => by cases h; exact .nil
  | d :: ds, _, h => by
    cases h with
    | cons h1 h2 => exact .cons (rep_stays e d _ h1) (repAll_stays e ds _ h2)
end
/-! ### zip of two tuples, walked -/
theorem walk_zipT {K : PySem.W.Frag} {a b : Addr} {xs ys : List V} {n : Nat} (hn : n = min xs.length ys.length) : Walk (RZ.ItzT K a b) n (fun H => SqT K H a xs ∧ SqT K H b ys) (YPair (fun i => xs[i]?) (fun i => ys[i]?)) where
  goes i H hi q := by
    have hx : i < xs.length := by rw [hn] at hi; exact Nat.lt_of_lt_of_le hi (Nat.min_le_left _ _)
    have hy : i < ys.length := by rw [hn] at hi; exact Nat.lt_of_lt_of_le hi (Nat.min_le_right _ _)
    exact ⟨xs, ys, _, _, q.1, q.2, List.getElem?_eq_getElem hx, List.getElem?_eq_getElem hy⟩
  stops H q := ⟨xs, ys, q.1, q.2, by rw [hn]; omega⟩
  yields i H v H' _ q y := by
    obtain ⟨T, x, z, ev, nT, eH, gx, gz⟩ := y
    exact ⟨T, x, z, ev, nT, eH, gx xs q.1, gz ys q.2⟩
/-! ### the same: two things of one data -/
end OC
set_option Elab.async false
set_option linter.all false
set_option maxRecDepth 100000
set_option maxHeartbeats 2000000
set_option Elab.async false
set_option linter.all false
set_option maxRecDepth 100000
namespace OC
open PySem PySem.Spec PyProof.Rows L2
theorem new_of {H H' : Hp} {p : Addr} {o : HO} (h : upd H p o = H') (n : H p = none) : Same H H' ∧ H' p = some o := by
  subst h
  exact ⟨same_upd n, upd_same⟩
/-- a name that holds a list or a tuple, walked while G' holds -/
def iSeqV (K : PySem.W.Frag) (i : Nat) : TI := fun σ H R => ∃ (a : Addr) (xs : List V) (G' : Hp → Prop), σ[i]? = some (some (.ref a)) ∧ G' H ∧ ((∀ H', G' H' → SqL K H' a xs) ∨ (∀ H', G' H' → SqT K H' a xs)) ∧ ∀ J, Walk J xs.length G' (YAt xs) → R J H
theorem pi_seqv {X : Cx} {tg : Expr} {x : Str} {pos : Pos} (i : Nat) (he : PE X (.Name x pos) (tVar i)) : PI X tg (.Name x pos) (iSeqV X.K i) := by
  refine ⟨fun pins s σ H R I h => ?_⟩
  obtain ⟨a, xs, G', hs, hg, hq, r⟩ := h
  rcases hq with hq | hq
  · exact (pi_list he).run pins s σ H R I ⟨.ref a, hs, a, rfl, ⟨xs, hq H hg⟩, r _ (walk_list.mono hq fun _ _ _ _ _ _ y => y)⟩
  · exact (pi_tup he).run pins s σ H R I ⟨.ref a, hs, a, rfl, ⟨xs, hq H hg⟩, r _ (walk_tup.mono hq fun _ _ _ _ _ _ y => y)⟩
theorem sz1000 {n : Nat} (h : n ≤ 1000) : n ≤ sizeLine := Nat.le_of_lt (small1000 h)
mutual
def noL : PyData → Bool
  | .none => true | .bool _ => true | .int _ => true | .str _ => true | .list _ => false | .tuple ds => noLAll ds | .dict _ => false
def noLAll : List PyData → Bool
  | [] => true
  | d :: ds => noL d && noLAll ds
end
mutual
theorem dp_tk {K : PySem.W.Frag} {H H' : Hp} (e : Tk H H') : ∀ (d : PyData) (v : V), noL d = true → Dp K H v d → Dp K H' v d
  | .none, _, _, h => by cases h; exact .non
  | .bool b, _, _, h => by cases h; exact .bl b
  | .int i, _, _, h => by cases h; exact .int i
  | .str x, _, _, h => by cases h; exact .str x
  | .list ds, _, n, h => by simp [noL] at n
  | .tuple ds, _, n, h => by
    cases h with
    | tup hs ha => exact .tup (e K _ _ hs) (dpAll_tk e ds _ (by simpa [noL] using n) ha)
  | .dict _, _, _, h => by cases h
theorem dpAll_tk {K : PySem.W.Frag} {H H' : Hp} (e : Tk H H') : ∀ (ds : List PyData) (vs : List V), noLAll ds = true → DpAll K H vs ds → DpAll K H' vs ds
  | [], _, _, h => by cases h; exact .nil
  | d :: ds, _, n, h => by
    have n' : noL d = true ∧ noLAll ds = true := by simpa [noLAll] using n
    cases h with
    | cons h1 h2 => exact .cons (dp_tk e d _ n'.1 h1) (dpAll_tk e ds _ n'.2 h2)
end
/-! ### rows as data -/
def rowD (r : List Int) : PyData := .tuple (r.map PyData.int)
theorem noL_ints : ∀ r : List Int, noLAll (r.map PyData.int) = true
  | [] => by simp [noLAll]
  | n :: r => by simp [noLAll, noL, noL_ints r]
theorem noL_row (r : List Int) : noL (rowD r) = true := by
  unfold rowD
  rw [noL]
  exact noL_ints r
theorem noL_rows : ∀ rs : List (List Int), noLAll (rs.map rowD) = true
  | [] => by simp [noLAll]
  | r :: rs => by simp [noLAll, noL_row, noL_rows rs]
theorem lay_ints : ∀ ns : List Int, PyData.canLayAll0 (ns.map PyData.int) = true
  | [] => by simp only [List.map_nil, PyData.canLayAll0]
  | n :: r => by simp only [List.map_cons, PyData.canLayAll0, PyData.canLay0, lay_ints r, Bool.and_self]
theorem depth_ints : ∀ ns : List Int, PyData.depthAll (ns.map PyData.int) = 0
  | [] => by simp only [List.map_nil, PyData.depthAll]
  | n :: r => by simp only [List.map_cons, PyData.depthAll, PyData.depth, depth_ints r, Nat.max_self]
theorem lay_rows : ∀ rs : List (List Int), PyData.canLayAll0 (rs.map rowD) = true
  | [] => by simp only [List.map_nil, PyData.canLayAll0]
  | r :: rs => by simp only [List.map_cons, PyData.canLayAll0, rowD, PyData.canLay0, lay_ints r, lay_rows rs, Bool.and_self]
theorem depth_rows : ∀ rs : List (List Int), PyData.depthAll (rs.map rowD) ≤ 1
  | [] => by simp only [List.map_nil, PyData.depthAll]; omega
  | r :: rs => by
    have := depth_rows rs
    simp only [List.map_cons, PyData.depthAll, rowD, PyData.depth, depth_ints r]
    omega
theorem shaped_ints (ns : List Int) : SeqAt.shaped (.list (ns.map PyData.int)) = true := by
  unfold SeqAt.shaped
  simp only [PyData.canLay0, lay_ints, PyData.depth, depth_ints, Bool.true_and]
  rfl
theorem shaped_trows (rs : List (List Int)) : SeqAt.shaped (.tuple (rs.map rowD)) = true := by
  unfold SeqAt.shaped
  have := depth_rows rs
  simp only [PyData.canLay0, lay_rows, PyData.depth, Bool.true_and]
  exact decide_eq_true (by omega)
theorem dpAll_int_inv {K : PySem.W.Frag} {H : Hp} : ∀ {xs : List V} {r : List Int}, DpAll K H xs (r.map PyData.int) → xs = r.map V.int
  | _, [], h => by cases h; rfl
  | _, n :: r, h => by
    cases h with
    | cons h1 h2 =>
      cases h1
      rw [dpAll_int_inv h2]
      rfl
theorem dp_row {K : PySem.W.Frag} {H : Hp} {v : V} {r : List Int} (h : Dp K H v (rowD r)) : ∃ a, v = .ref a ∧ SqT K H a (r.map V.int) := by
  unfold rowD at h
  cases h with
  | tup hs ha => exact ⟨_, rfl, (dpAll_int_inv ha) ▸ hs⟩
theorem row_dp {K : PySem.W.Frag} {H : Hp} {a : Addr} {r : List Int} (h : SqT K H a (r.map V.int)) : Dp K H (.ref a) (rowD r) := .tup h (dpAll_ints r)
theorem dpAll_append {K : PySem.W.Frag} {H : Hp} : ∀ {xs ys : List V} {ds es : List PyData}, DpAll K H xs ds → DpAll K H ys es → DpAll K H (xs ++ ys) (ds ++ es)
  | _, _, _, _, .nil, h => h
  | _, _, _, _, .cons h t, g => .cons h (dpAll_append t g)
theorem dpAll_row {K : PySem.W.Frag} {H : Hp} {vs : List V} {rs : List (List Int)} {i : Nat} {v : V} (h : DpAll K H vs (rs.map rowD)) (e : vs[i]? = some v) : ∃ a r, v = .ref a ∧ rs[i]? = some r ∧ r ∈ rs ∧ SqT K H a (r.map V.int) := by
  obtain ⟨d, g, _, hd⟩ := dpAll_get h e
  rw [List.getElem?_map] at g
  cases hr : rs[i]? with
  | none => rw [hr] at g; cases g
  | some r =>
    rw [hr] at g
    have ed : d = rowD r := (Option.some.inj g).symm
    subst ed
    obtain ⟨a, rfl, ha⟩ := dp_row hd
    exact ⟨a, r, rfl, rfl, List.mem_of_getElem? hr, ha⟩
/-- rests below p -/
def RowOk (p : Int) (r : List Int) : Prop := ∀ x ∈ r, 0 ≤ x ∧ x < p
/-! ### comprehensions of ints -/
def LcGoal (J : It) (g : TG) (tt : TT) (te : TE) (vs : List Nat) (σ : L2.St) (H : Hp) (Qd : Addr → Hp → Prop) : Prop := ∀ D, H D = none → ∃ W : Nat → Nat → Hp → Prop, (∃ m, W 0 m (upd H D (.lst []))) ∧ ∀ i m H, W i m H →
  (J.stop i H ∧ Qd D H) ∨ (J.go i H ∧ ∃ Nx : Hp → Prop, (∀ H', Nx H' → ∃ m', m' < m ∧ W (i + 1) m' H') ∧ ∀ x H', J.yld i H x H' → g x (wipe σ vs) H' fun σ2 H2 => wipe σ2 vs = wipe σ vs ∧ tt σ2 H2 fun b H3 =>
    if b = true then te σ2 H3 fun y H4 => ∃ acc, H4 D = some (.lst acc) ∧ acc.length < sizeLine ∧ Nx (upd H4 D (.lst (acc ++ [y]))) else Nx H3)
theorem lc_zipI {K : PySem.W.Frag} {a b : Addr} {xs ys : List Int} {σ : L2.St} {H : Hp} {Qd : Addr → Hp → Prop} {i j : Nat} {vs : List Nat} {te : TE} (f : Int → Int → Int) (hA : SqT K H a (xs.map V.int)) (hB : SqT K H b (ys.map V.int)) (hz : xs.length ≤ 1000)
    (hw : ∀ x y : Option V, wipe (((wipe σ vs).set i x).set j y) vs = wipe σ vs)
    (hte : ∀ (x y : Int) (H' : Hp) (Q' : VK), x ∈ xs → y ∈ ys → Same H H' → Q' (.int (f x y)) H' → te (((wipe σ vs).set i (some (.int x))).set j (some (.int y))) H' Q')
    (hd : ∀ D H', Same H H' → H D = none → H' D = some (.lst ((List.zipWith f xs ys).map V.int)) → Qd D H') :
    LcGoal (RZ.ItzT K a b) (gTup K 2 (gCons (gName i) (gCons (gName j) gNil))) tYes te vs σ H Qd := by
  intro D nD
  refine lc_it (walk_zipT (K := K) (a := a) (b := b) (xs := xs.map V.int) (ys := ys.map V.int) rfl) (fun k H' => Same H H' ∧ H' D = some (.lst (((List.zipWith f xs ys).take k).map V.int))) ⟨same_mut (Same.refl H) nD, upd_same⟩ (fun k H' _ hP => ⟨Same.tup hP.1 hA, Same.tup hP.1 hB⟩) (fun k x H1 H2 hk hP hY => ?_) (fun H' hP => hd D H' hP.1 nD ?_)
  · obtain ⟨Ta, x1, y1, rfl, nT, rfl, e1, e2⟩ := hY
    obtain ⟨sm, eD⟩ := hP
    have sT : Same H1 (upd H1 Ta (.tup [x1, y1])) := same_upd nT
    have e1 : (xs.map V.int)[k]? = some x1 := e1
    have e2 : (ys.map V.int)[k]? = some y1 := e2
    rw [List.getElem?_map] at e1 e2
    cases h1 : xs[k]? with
    | none => rw [h1] at e1; cases e1
    | some z1 =>
      cases h2 : ys[k]? with
      | none => rw [h2] at e2; cases e2
      | some z2 =>
        rw [h1] at e1
        rw [h2] at e2
        have q1 : x1 = V.int z1 := (Option.some.inj e1).symm
        have q2 : y1 = V.int z2 := (Option.some.inj e2).symm
        subst q1 q2
        refine ⟨Ta, [.int z1, .int z2], rfl, .inl (.inl upd_same), rfl, .int z1, [.int z2], rfl, .int z2, [], rfl, rfl, hw _ _, ?_⟩
        refine hte z1 z2 _ _ (List.mem_of_getElem? h1) (List.mem_of_getElem? h2) (sm.trans sT) ⟨_, sT _ _ eD, ?_, same_mut (sm.trans sT) nD, ?_⟩
        · rw [List.length_map, List.length_take, List.length_zipWith]
          exact small1000 (by omega)
        · rw [upd_same, List.take_add_one, List.getElem?_zipWith, h1, h2, List.map_append]
          rfl
  · obtain ⟨sm, eD⟩ := hP
    rw [eD, List.take_of_length_le]
    rw [List.length_zipWith, List.length_map, List.length_map]
    exact Nat.le_refl _
theorem lc_tupI {K : PySem.W.Frag} {a : Addr} {xs : List Int} {σ : L2.St} {H : Hp} {Qd : Addr → Hp → Prop} {i : Nat} {vs : List Nat} {te : TE} (f : Int → Int) (hA : SqT K H a (xs.map V.int)) (hz : xs.length ≤ 1000)
    (hw : ∀ x : Option V, wipe ((wipe σ vs).set i x) vs = wipe σ vs)
    (hte : ∀ (x : Int) (H' : Hp) (Q' : VK), x ∈ xs → Same H H' → Q' (.int (f x)) H' → te ((wipe σ vs).set i (some (.int x))) H' Q')
    (hd : ∀ D H', Same H H' → H D = none → H' D = some (.lst ((xs.map f).map V.int)) → Qd D H') :
    LcGoal (Itt K a) (gName i) tYes te vs σ H Qd := by
  intro D nD
  refine lc_it (walk_tup (K := K) (a := a) (xs := xs.map V.int)) (fun k H' => Same H H' ∧ H' D = some (.lst (((xs.map f).take k).map V.int))) ⟨same_mut (Same.refl H) nD, upd_same⟩ (fun k H' _ hP => Same.tup hP.1 hA) (fun k x H1 H2 hk hP hY => ?_) (fun H' hP => hd D H' hP.1 nD ?_)
  · obtain ⟨rfl, e1⟩ := hY
    obtain ⟨sm, eD⟩ := hP
    rw [List.getElem?_map] at e1
    cases h1 : xs[k]? with
    | none => rw [h1] at e1; cases e1
    | some z1 =>
      rw [h1] at e1
      have q1 : x = V.int z1 := (Option.some.inj e1).symm
      subst q1
      refine ⟨hw _, hte z1 _ _ (List.mem_of_getElem? h1) sm ⟨_, eD, ?_, same_mut sm nD, ?_⟩⟩
      · rw [List.length_map, List.length_take, List.length_map]
        exact small1000 (by omega)
      · rw [upd_same, List.take_add_one, List.getElem?_map, h1, List.map_append]
        rfl
  · obtain ⟨sm, eD⟩ := hP
    rw [eD, List.take_of_length_le]
    rw [List.length_map, List.length_map]
    exact Nat.le_refl _
end OC
set_option Elab.async false
set_option linter.all false
set_option maxRecDepth 100000
set_option maxHeartbeats 2000000
/-! defs that are called while no repr is under way (A.guards = some []): the layer's promise with that one fact more -/
namespace OC
open PySem PySem.Spec PyProof.Rows L2
structure FnG (P : Program) (w : World) (K : PySem.W.Frag) (mg : Str → Option Value) (base : Heap) (CX : CXT) (k : Nat)
    (f : Addr) (fd : FuncData) (ps : List Str) (sp : Sp) : Prop where
  len : ∀ vs H Q E, sp vs H Q E → vs.length = ps.length
  go : ∀ (A : Around) (outer : List Env) (s : Shared) (H : Hp) (args : Args) (us : List Value) (vs : List V) (Q : VK) (E : XK),
    Room k A → A.guards = some [] → Env0 P w K mg base A outer s H → BindsTo s fd args (ps.zip us) → Vals vs us → sp vs H Q E →
    codeAny (model P w) A (.call (.ref f) args) (CR CX outer P w H s Q E) s
section
variable {P : Program} {w : World} {K : PySem.W.Frag} {mg : Str → Option Value} {base : Heap} {CX : CXT} {k : Nat} {f : Addr} {fd : FuncData} {ps : List Str} {sp : Sp}
theorem FnG.of (F : FnOk P w K mg base CX k f fd ps sp) : FnG P w K mg base CX k f fd ps sp :=
  ⟨F.len, fun A outer s H args us vs Q E hr _ => F.run A outer s H args us vs Q E hr⟩
theorem FnG.mono {j : Nat} (F : FnG P w K mg base CX j f fd ps sp) (h : j ≤ k) : FnG P w K mg base CX k f fd ps sp :=
  ⟨F.len, fun A outer s H args us vs Q E hr => F.go A outer s H args us vs Q E (hr.mono h)⟩
end
/-- from the body, where no repr is under way -/
theorem fnG_of {CX : CXT} {P : Program} {w : World} {K : PySem.W.Frag} {mg : Str → Option Value} {base : Heap} {k : Nat} {f : Addr}
    {nm ql : Str} {pr : Arguments} {bd : List Stmt} {sc : Scope} {dV kV doc pm cdv ct oc : Value} {an od : Option Addr}
    {osl : Array (Option Value)} {N ps : List Str} {sp : Sp}
    (lk : K.lookup f = some ⟨oc, od, .func (PySem.W.fnOf nm ql pr bd sc dV kV doc pm an cdv ct), osl⟩)
    (hcd : PySem.W.codeIn K cdv ql = true) (S : FnScope N ps sc)
    (len : ∀ vs H Q E, sp vs H Q E → vs.length = ps.length)
    (hbody : ∀ (A : Around) (outer : List Env) (s : Shared) (H : Hp) (vs : List V) (Q : VK) (E : XK),
      Room k (A.deeper (envOfC ql sc s.heap.objs.size f cdv)) → A.guards = some [] → sp vs H Q E →
      ∃ t, PSs (cxOf CX P w K mg base N ql sc f cdv A outer s H E) bd t ∧ t { nx := fun _ H' => Q .non H', rt := Q } (start N vs) H) :
    FnG P w K mg base CX (k + 1) f (PySem.W.fnOf nm ql pr bd sc dV kV doc pm an cdv ct) ps sp where
  len := len
  go A outer s H args us vs Q E hr hgd e0 hb r hsp := by
    have same : ∀ b o, base.get? b = some o → s.heap.get? b = some o := fun b o e => (e0.bs b o e).1
    have inK : K.In s.heap := e0.mod.kin.keeps same
    have noLim : s.heap.NoLimit := e0.mod.nolimit.keeps same
    have kinds : ∀ y ∈ ps.zip us, sc.names.lookup y.1 = some .local ∨
        (sc.names.lookup y.1 = some .cell ∧ ((cellsFrom (s.heap.objs.size + 1) sc.names []).lookup y.1).isSome = true) := by
      rintro ⟨n, v⟩ hy
      exact (S.par n (List.of_mem_zip hy).1).imp id fun q => ⟨q, PySem.W.cellsFrom_some _ _ _ (.inl q)⟩
    apply codeAny_call_function hr.depth (inK _ _ lk) rfl S.co S.gen rfl (PySem.W.codeRec_of inK hcd)
    apply hb
    apply wpAny_newFunctionEnv_cells S.kind kinds
    intro env he s1 x
    cases he
    refine ⟨noLim.keeps x.toInCall.keep, codeAny_func ?_⟩
    obtain ⟨t, ht, hq⟩ := hbody A outer s H vs Q E (hr.deeper _) hgd hsp
    have I0 := inv_start (CX := CX) (P := P) (w := w) (E := E) S hr.hd e0 (len _ _ _ _ hsp) r x
    have ran := ht.run [] s1 (start N vs) H _ I0 hq
    apply wpAny_mono ran
    · intro fl s' hs
      rcases fl with _ | _ | _ | u
      all_goals first
        | (obtain ⟨v, σ', H', J, rv, q⟩ := hs; exact ⟨v, H', J.os, J.bare, J.base, J.hok, rv, q⟩)
        | (obtain ⟨σ', H', J, q⟩ := hs; exact ⟨V.non, H', J.os, J.bare, J.base, J.hok, rfl, q⟩)
        | (obtain ⟨_, _, _, q⟩ := hs; exact q.elim)
    · exact fun e s' hs => hs
/-! ### by name -/
section
variable {P : Program} {w : World} {K : PySem.W.Frag} {mg : Str → Option Value} {base : Heap}
theorem funG {x : Str} {st : Stmt} {f : Addr} {fd : FuncData} {N ps : List Str} {k : Nat} {sp : Sp} (F : Fun K x x st f fd) (S : FnScope N ps (defScope st)) (len : ∀ vs H Q E, sp vs H Q E → vs.length = ps.length)
    (hbody : ∀ (cdv : Value) (A : Around) (outer : List Env) (s : Shared) (H : Hp) (vs : List V) (Q : VK) (E : XK), Room k (A.deeper (envOfC x (defScope st) s.heap.objs.size f cdv)) → A.guards = some [] → sp vs H Q E →
      ∃ t, PSs (cxOf CX0 P w K mg base N x (defScope st) f cdv A outer s H E).nox (defBody st) t ∧ t { nx := fun _ H' => Q .non H', rt := Q } (start N vs) H) : FnG P w K mg base CX0 (k + 1) f fd ps sp := by
  obtain ⟨oc, od, kV, doc, pm, an, cdv, ct, osl, rfl, lk, hcd⟩ := F.ex
  refine fnG_of lk hcd S len ?_
  intro A outer s H vs Q E hr hgd hsp
  obtain ⟨t, h, q⟩ := hbody cdv A outer s H vs Q E hr hgd hsp
  exact ⟨t, h.nox, q⟩
end
end OC
set_option Elab.async false
set_option linter.all false
set_option maxRecDepth 100000
set_option maxHeartbeats 2000000
namespace OC
open PySem PySem.Spec PyProof.Rows L2
section
variable {P : Program} {w : World} {K : PySem.W.Frag} {mg mb : Str → Option Value} {CX : CXT} {k : Nat} {fa a : Addr} {fd : FuncData} {x : Str} {sp : Sp} {s₁ : Shared} {vs : List Value} {ns : List Int}
/-- the law's own call, where only the script may be tracked -/
theorem law_core (KX : K.In s₁.heap) (hns : s₁.heap.Ns mainGlobals mg) (hb : s₁.heap.Ns builtinsNs mb) (hbb : ∀ x : Str, x ≠ "__name__" → mb x = bootBuiltins x)
    (hlim : s₁.heap.NoLimit) (hg : s₁.gens = #[]) (ha : s₁.heap.get? a = some { cls := .type "list", data := .seq vs.toArray }) (hr : Room k callerA)
    (F : ∀ base : Heap, K.In base → base.Ns mainGlobals mg → FnG P w K mg base CX k fa fd [x] sp)
    (hbind : ∀ (s : Shared) (u : Value), BindsTo s fd ⟨[u], []⟩ [(x, u)]) (hCX : ∀ H e s', CX [] H s₁ (fun _ _ _ => False) e s' → False)
    (H : Hp) (hO : Only H) (hsp : sp [.ref a] H (fun v _ => v = .bl true) fun _ _ _ => False) (hok : HOk P w H s₁.heap) (hA : ∀ b, H b ≠ none → b = a) (hK : H a ≠ none → K.lookup a = none) :
    codeAny (model P w) callerA (.call (.ref fa) ⟨[.ref a], []⟩)
      (fun r s' => r = .ok (.ret (.bool true)) ∧ OldK s₁.heap s'.heap ∧ s'.os = s₁.os ∧ AllBare s'.gens) s₁ := by
  have off : ∀ {b : Addr} {o : Obj} {es : Array DictEntry} {ep : Nat}, s₁.heap.get? b = some o → o.data = .dict es ep → H b = none := by
    intro b o es ep e d
    apply Classical.byContradiction
    intro nb
    have eb := hA b nb
    subst eb
    rw [ha] at e
    have eo := Option.some.inj e
    subst eo
    cases (show Data.seq vs.toArray _ = Data.dict es ep from d)
  have nsB : ∀ {b : Addr} {m : Str → Option Value}, s₁.heap.Ns b m → (hidT s₁.heap H).Ns b m := by
    rintro b m ⟨o, es, ep, e, d, r⟩
    exact ⟨o, es, ep, hidT_get e (off e d), d, r⟩
  have inB : K.In (hidT s₁.heap H) := by
    intro b o e
    refine hidT_get (KX b o e) ?_
    apply Classical.byContradiction
    intro nb
    have eb := hA b nb
    subst eb
    rw [hK nb] at e
    cases e
  obtain ⟨mc, l1, l2⟩ := hlim
  have M : Mod K mg (hidT s₁.heap H) := ⟨inB, nsB hns, ⟨mb, nsB hb, hbb⟩, ⟨mc, nsB l1, l2⟩⟩
  have e0 : Env0 P w K mg (hidT s₁.heap H) callerA [] s₁ H :=
    ⟨rfl, M, fun b o e => of_hidT e, Nat.le_of_eq (hidT_size _ _), trivial, fun b hb => (nomatch (show b ∈ ([] : List Addr) from hb)), hok, .of_eq hg⟩
  have run := (F _ inB (nsB hns)).go callerA [] s₁ H ⟨[.ref a], []⟩ [.ref a] [.ref a] _ _ hr rfl e0 (hbind s₁ (.ref a)) (.cons rfl .nil) hsp
  apply codeAny_mono run
  intro r s' h
  rcases r with e | fl
  · exact (hCX H e s' h).elim
  · rcases fl with _ | _ | _ | u
    all_goals first
      | exact (show False from h).elim
      | skip
    obtain ⟨v, H', os, bare, un, hok', r', q⟩ := h
    cases (show v = .bl true from q)
    cases (show u = Value.bool true from r')
    refine ⟨rfl, OldK.of_keep ?_, os, bare⟩
    intro b o e
    rcases hO b with z | ⟨ob, xs, z⟩
    · exact un.keep b o e z (fun y => (nomatch (show b ∈ ([] : List Addr) from y))) (fun y => (nomatch y))
    · have e1 := (hok b _ z).1
      have e2 := (hok' b _ (un.frzs b ob _ z)).1
      rw [e] at e1
      rw [Option.some.inj e1]
      exact e2
theorem law_callG (KX : K.In s₁.heap) (hns : s₁.heap.Ns mainGlobals mg) (hb : s₁.heap.Ns builtinsNs mb) (hbb : ∀ x : Str, x ≠ "__name__" → mb x = bootBuiltins x)
    (hlim : s₁.heap.NoLimit) (hg : s₁.gens = #[]) (ha : s₁.heap.get? a = some { cls := .type "list", data := .seq vs.toArray }) (hi : IntsAre vs ns) (hl : ns.length ≤ sizeLine) (hr : Room k callerA)
    (F : ∀ base : Heap, K.In base → base.Ns mainGlobals mg → FnG P w K mg base CX k fa fd [x] sp)
    (hbind : ∀ (s : Shared) (u : Value), BindsTo s fd ⟨[u], []⟩ [(x, u)])
    (hsp : ∀ H : Hp, Only H → SqL K H a (ns.map V.int) → sp [.ref a] H (fun v _ => v = .bl true) fun _ _ _ => False) (hCX : ∀ H e s', CX [] H s₁ (fun _ _ _ => False) e s' → False) :
    codeAny (model P w) callerA (.call (.ref fa) ⟨[.ref a], []⟩)
      (fun r s' => r = .ok (.ret (.bool true)) ∧ OldK s₁.heap s'.heap ∧ s'.os = s₁.os ∧ AllBare s'.gens) s₁ := by
  have rv := vals_ints hi
  have lv := hi.length
  cases hk : K.lookup a with
  | some o =>
    have e := KX a o hk
    rw [ha] at e
    have eo := (Option.some.inj e).symm
    subst eo
    have only : Only (fun _ => none) := fun _ => .inl rfl
    have sq : SqL K (fun _ => none) a (ns.map V.int) := .inr ⟨_, vs.toArray, _, hk, rfl, rfl, rfl, by rw [List.size_toArray, lv]; exact hl, by simpa using rv⟩
    exact law_core KX hns hb hbb hlim hg ha hr F hbind hCX (fun _ => none) only (hsp _ only sq) (fun b u z => (nomatch (show (none : Option HO) = some u from z))) (fun b z => (z rfl).elim) (fun z => (z rfl).elim)
  | none =>
    let H0 : Hp := upd (fun _ => none) a (.frz { cls := .type "list", data := .seq vs.toArray } (.lst (ns.map V.int)))
    have at_a : H0 a = some (.frz { cls := .type "list", data := .seq vs.toArray } (.lst (ns.map V.int))) := upd_same
    have off : ∀ b, b ≠ a → H0 b = none := fun b n => upd_ne n
    have only : Only H0 := by
      intro b
      by_cases hb : b = a
      · subst hb
        exact .inr ⟨_, _, at_a⟩
      · exact .inl (off b hb)
    refine law_core KX hns hb hbb hlim hg ha hr F hbind hCX H0 only (hsp _ only (.inl (.inr ⟨_, at_a⟩))) ?_ ?_ (fun _ => hk)
    · intro b u z
      by_cases hb : b = a
      · subst hb
        rw [at_a] at z
        have ez := (Option.some.inj z).symm
        subst ez
        exact ⟨ha, by rw [List.length_map]; exact hl, vs, _, rv, ha⟩
      · rw [off b hb] at z
        cases z
    · intro b z
      apply Classical.byContradiction
      intro hb
      exact z (off b hb)
end
theorem walk_ofG {l : PySem.W.OpenLaw} {n k : Nat} {q : Program} {loose : List Str} {XP : (Str → Option Value) → Heap → Prop} {YP : World → Heap → Prop} {d : DefRec} {K : Params → PySem.W.Frag} {CX : World → CXT} {sp : World → Sp} {x : Str}
    (hn : l.most = some n) (hn2 : n ≤ sizeLine) (hdf : d.params.defaults = []) (hr : Room k callerA) (hY : ∀ (w : World) (h : Heap), YP w h → (K w.params).In h) (F : ∀ (w : World) (mg : Str → Option Value) (fa : Addr) (h : Heap), (K w.params).In h → h.Ns mainGlobals mg → mg d.name = some (.ref fa) → ∃ fd : FuncData, (∀ (s : Shared) (u : Value), BindsTo s fd ⟨[u], []⟩ [(x, u)]) ∧ ∀ base : Heap, (K w.params).In base → base.Ns mainGlobals mg → FnG l.prog w (K w.params) mg base (CX w) k fa fd [x] (sp w)) (hsp : ∀ (w : World) (H : Hp) (a : Addr) (ns : List Int), ns.length ≤ n → Only H → SqL (K w.params) H a (ns.map V.int) → sp w [.ref a] H (fun v _ => v = .bl true) fun _ _ _ => False) (hCX : ∀ (w : World) (H : Hp) (s : Shared) (e : Value) (s' : Shared), CX w [] H s (fun _ _ _ => False) e s' → False) : PySem.W.WalkO q loose XP YP l.row.toRowW d [] (fun f vs => PySem.call f vs) := by
  apply Att.attach_call hn hdf
  intro w s₀ s₁ mg mb fa o pm cd doc a vs ns G Y ho hd hcd hmg hobj hints hlen hg
  obtain ⟨fd, hb, hF⟩ := F w mg fa _ (hY w _ Y) G.T.g hmg
  exact law_callG (hY w _ Y) G.T.g G.T.b G.T.builtins G.T.nolimit hg hobj hints (Nat.le_trans hlen hn2) hr hF hb (fun H hO hS => hsp w H a ns hlen hO hS) fun H e s' => hCX w H s₁ e s'
end OC
set_option Elab.async false
set_option linter.all false
set_option maxRecDepth 100000
set_option maxHeartbeats 2000000
/-! t[::-1] of a tuple -/
set_option Elab.async false
set_option linter.all false
set_option maxRecDepth 100000
set_option maxHeartbeats 2000000
/-! repr of things, where no repr is under way -/
namespace OC
open PySem PySem.Spec PyProof.Rows L2
mutual
def lstless : PyData → Bool
  | .none => true | .bool _ => true | .int _ => true | .str _ => true | .list _ => false | .tuple ds => lstlessAll ds | .dict _ => true
def lstlessAll : List PyData → Bool
  | [] => true
  | d :: ds => lstless d && lstlessAll ds
end
end OC
set_option Elab.async false
set_option linter.all false
set_option maxRecDepth 100000
set_option maxHeartbeats 2000000
/-! xs == [], xs != [], whatever xs holds -/
namespace OC
open PySem PySem.Spec PyProof.Rows L2
def rNeNil : R2 := fun x y H Q => ∃ l b xs, x = .ref l ∧ y = .ref b ∧ H l = some (.lst xs) ∧ H b = some (.lst []) ∧ Q (.bl (!xs.isEmpty)) H
theorem shaped_nil : SeqAt.shaped (.list []) = true := shaped_ints []
theorem op_neNil {X : Cx} (hu : X.A.units + 64 < cLine) : OpR X (compareOp .NotEq) rNeNil := by
  intro pins s σ H x y v u Q I rx ry h
  obtain ⟨l, b, xs, ex, ey, hl, hb, q⟩ := h
  cases xs with
  | nil =>
    subst ex ey
    exact op_neD hu pins s σ H _ _ v u Q I rx ry ⟨.list [], .list [], .lst (.inl (.inl hl)) .nil, .lst (.inl (.inl hb)) .nil, shaped_nil, shaped_nil, q⟩
  | cons z r =>
    subst ex ey
    cases rx
    cases ry
    obtain ⟨its, r1, p1, _⟩ := I.list (.inl (.inl hl))
    obtain ⟨its2, r2, p2, _⟩ := I.list (.inl (.inl hb))
    have l1 := r1.length
    have l2 := r2.length
    have hd : (its.toArray.size != its2.toArray.size) = true := by
      rw [List.size_toArray, List.size_toArray, ← l1, ← l2]
      rfl
    exact SeqAt.RcNeAt.lists_lengths p1.isList p2.isList hd (by omega) X.prog X.w X.xe _ ⟨.bl true, H, I, rfl, q⟩
end OC
set_option Elab.async false
set_option linter.all false
set_option maxRecDepth 100000
set_option maxHeartbeats 1000000
/-! things as data: what repr and the judges ask of them -/
namespace OC
open PySem PySem.Spec PyProof.Rows L2
/-- nothing is bad -/
abbrev NB : Addr → Prop := fun _ => False
/-- fit for repr, with bounds -/
structure FitB (B k : Nat) (d : PyData) : Prop where
  len : d.shown.length ≤ B
  sh : d.showable = true
  dp : d.depth ≤ k
  ok : d.hasDict = true → lstless d = true
theorem FitB.mono {B B' k k' : Nat} {d : PyData} (h : FitB B k d) (hB : B ≤ B') (hk : k ≤ k') : FitB B' k' d := ⟨Nat.le_trans h.len hB, h.sh, Nat.le_trans h.dp hk, h.ok⟩
/-- a row of rests, by data -/
def restD (p : Int) : PyData → Bool
  | .int i => decide (0 ≤ i) && decide (i < p)
  | _ => false
def isRowD (p n : Int) : PyData → Bool
  | .tuple ds => decide ((ds.length : Int) = n) && ds.all (restD p)
  | _ => false
/-- a tuple's length is within bounds -/
def lenOk : PyData → Prop
  | .tuple ds => ds.length ≤ 1000
  | _ => True
theorem row_rep {K : PySem.W.Frag} {H : Hp} {bad : Addr → Prop} {a : Addr} {r : List Int} (h : SqT K H a (r.map V.int)) : Rep K H bad (.ref a) (rowD r) := .tup h (repAll_ints r)
end OC
set_option Elab.async false
set_option linter.all false
set_option maxRecDepth 100000
set_option maxHeartbeats 1000000
/-! slices and sums of tuples, whichever tuple is told -/
namespace OC
open PySem PySem.Spec PyProof.Rows L2
theorem cut_whole {xs : List V} {lo hi : Option Int} (h : HT.sIx xs.length 0 lo = 0 ∧ HT.sIx xs.length xs.length hi = xs.length) : cutV xs lo hi = xs := by
  unfold cutV
  rw [h.1, h.2, List.drop_zero, Nat.sub_zero, List.take_length]
def rSlB (K : PySem.W.Frag) : V → Option Int → Option Int → Hp → VK → Prop := fun x lo hi H Q => ∃ a xs, x = .ref a ∧ SqT K H a xs ∧ ∀ p H', Same H H' → SqT K H' p (cutV xs lo hi) → Q (.ref p) H'
theorem sl_tupB {X : Cx} : SlR X (rSlB X.K) := by
  intro pins s σ H x v vl vu lo hi sl Q I rx hs pl pu h
  obtain ⟨a, xs, ex, hx, q⟩ := h
  exact sl_tupA pins s σ H x v vl vu lo hi sl Q I rx hs pl pu ⟨a, xs, ex, hx, fun hw => q a H (Same.refl H) (by rw [cut_whole hw]; exact hx), fun _ p np => q p _ (same_upd np) (.inl (.inl upd_same))⟩
def rCatB (K : PySem.W.Frag) : R2 := fun x y H Q => ∃ a b xs ys, x = .ref a ∧ y = .ref b ∧ SqT K H a xs ∧ SqT K H b ys ∧ xs.length + ys.length ≤ sizeLine ∧ ∀ p H', Same H H' → SqT K H' p (xs ++ ys) → Q (.ref p) H'
theorem op_catB {X : Cx} : OpR X (binaryOp .Add) (rCatB X.K) := by
  intro pins s σ H x y v u Q I rx ry h
  obtain ⟨a, b, xs, ys, ex, ey, hx, hy, hz, q⟩ := h
  refine op_catA pins s σ H x y v u Q I rx ry ⟨a, b, xs, ys, ex, ey, hx, hy, hz, fun z => q b H (Same.refl H) ?_, fun _ z => q a H (Same.refl H) ?_, fun _ _ p np => q p _ (same_upd np) (.inl (.inl upd_same))⟩
  · rw [z, List.nil_append]
    exact hy
  · rw [z, List.append_nil]
    exact hx
theorem cut_from {xs : List V} {i : Int} (h0 : 0 ≤ i) (h1 : i ≤ xs.length) : cutV xs (some i) none = xs.drop i.toNat := by
  unfold cutV
  have e : HT.sIx xs.length 0 (some i) = min i.toNat xs.length := by
    have := HT.sIx_nat xs.length 0 i.toNat
    rw [show ((i.toNat : Nat) : Int) = i by omega] at this
    exact this
  rw [e, HT.sIx_none, show min i.toNat xs.length = i.toNat by omega]
  exact List.take_of_length_le (by rw [List.length_drop]; omega)
mutual
theorem rep_weak {K : PySem.W.Frag} {b1 b2 : Addr → Prop} {H : Hp} (e : ∀ a, b2 a → b1 a) : ∀ (d : PyData) (v : V), Rep K H b1 v d → Rep K H b2 v d
  | .none, _, h => by cases h; exact .non
  | .bool b, _, h => by cases h; exact .bl b
  | .int i, _, h => by cases h; exact .int i
  | .str x, _, h => by cases h; exact .str x
  | .list ds, _, h => by
    cases h with
    | lst hs hb ha => exact .lst hs (fun z => hb (e _ z)) (repAll_weak e ds _ ha)
  | .tuple ds, _, h => by
    cases h with
    | tup hs ha => exact .tup hs (repAll_weak e ds _ ha)
  | .dict _, _, h => by
    cases h with
    | dct hs hf => exact .dct hs hf
theorem repAll_weak {K : PySem.W.Frag} {b1 b2 : Addr → Prop} {H : Hp} (e : ∀ a, b2 a → b1 a) : ∀ (ds : List PyData) (vs : List V), RepAll K H b1 vs ds → RepAll K H b2 vs ds
  | [], _, h => by cases h; exact .nil
  | d :: ds, _, h => by
    cases h with
    | cons h1 h2 => exact .cons (rep_weak e d _ h1) (repAll_weak e ds _ h2)
end
end OC
set_option Elab.async false
set_option linter.all false
set_option maxRecDepth 100000
set_option maxHeartbeats 1000000
/-! comprehensions over lists and tuples of things -/
namespace OC
open PySem PySem.Spec PyProof.Rows L2
mutual
theorem rep_fresh {K : PySem.W.Frag} {bad : Addr → Prop} {H : Hp} {B : Addr} (n : H B = none) : ∀ (d : PyData) (v : V), Rep K H bad v d → Rep K H (fun a => bad a ∨ a = B) v d
  | .none, _, h => by cases h; exact .non
  | .bool b, _, h => by cases h; exact .bl b
  | .int i, _, h => by cases h; exact .int i
  | .str x, _, h => by cases h; exact .str x
  | .list ds, _, h => by
    cases h with
    | lst hs hb ha => exact .lst hs (fun z => z.elim hb (fun e => by subst e; rw [n] at hs; cases hs)) (repAll_fresh n ds _ ha)
  | .tuple ds, _, h => by
    cases h with
    | tup hs ha => exact .tup hs (repAll_fresh n ds _ ha)
  | .dict _, _, h => by
    cases h with
    | dct hs hf => exact .dct hs hf
theorem repAll_fresh {K : PySem.W.Frag} {bad : Addr → Prop} {H : Hp} {B : Addr} (n : H B = none) : ∀ (ds : List PyData) (vs : List V), RepAll K H bad vs ds → RepAll K H (fun a => bad a ∨ a = B) vs ds
  | [], _, h => by cases h; exact .nil
  | d :: ds, _, h => by
    cases h with
    | cons h1 h2 => exact .cons (rep_fresh n d _ h1) (repAll_fresh n ds _ h2)
end
theorem upd_stays {bad : Addr → Prop} {H H' : Hp} {D : Addr} {xs ys : List V} (s : Stays bad H H') (h : H' D = some (.lst xs)) (bD : bad D) : Stays bad H (upd H' D (.lst ys)) := by
  refine ⟨s.t.mut h, fun a zs q => ?_, fun a zs q n => ?_⟩
  · have := s.d a zs q
    rw [upd_ne (fun z => by subst z; rw [h] at this; cases this)]
    exact this
  · rw [upd_ne (fun z => n (by rw [z]; exact bD))]
    exact s.l a zs q n
theorem Same.some {H H' : Hp} (s : Same H H') {a : Addr} (h : H a ≠ none) : H' a ≠ none := by
  rcases hq : H a with _ | o
  · exact absurd hq h
  · rw [s a o hq]
    exact fun z => nomatch z
/-- what is new at D or behind H -/
abbrev NewBy (H : Hp) (D : Addr) : Addr → Prop := fun a => H a ≠ none ∨ a = D
/-- a comprehension [f(x) for x in xs]: each thing to a thing, new ones alone -/
theorem lc_mapR {K : PySem.W.Frag} {J : It} {G : Hp → Prop} {vs : List V} {ds : List PyData} {σ : L2.St} {H : Hp} {Qd : Addr → Hp → Prop} {i : Nat} {sl : List Nat} {te : TE} (F : PyData → PyData)
    (w : Walk J vs.length G (YAt vs)) (hG : ∀ H', Same H H' → G H') (hD : RepAll K H NB vs ds) (hz : vs.length ≤ 1000) (hw : ∀ x : Option V, wipe ((wipe σ sl).set i x) sl = wipe σ sl)
    (hte : ∀ (v : V) (d : PyData) (H' : Hp) (Q' : VK), d ∈ ds → Rep K H' NB v d → Same H H' → (∀ v' H'', Same H' H'' → Rep K H'' (fun a => H' a ≠ none) v' (F d) → Q' v' H'') → te ((wipe σ sl).set i (some v)) H' Q')
    (hd : ∀ D H' ws, Same H H' → H D = none → H' D = some (.lst ws) → RepAll K H' (NewBy H D) ws (ds.map F) → Qd D H') :
    LcGoal J (gName i) tYes te sl σ H Qd := by
  intro D nD
  have lv := repAll_len hD
  refine lc_it w (fun k H' => Same H H' ∧ ∃ ws, H' D = some (.lst ws) ∧ ws.length = k ∧ RepAll K H' (NewBy H D) ws ((ds.take k).map F)) ⟨same_mut (Same.refl H) nD, [], upd_same, rfl, .nil⟩ (fun k H' _ hP => hG H' hP.1) (fun k x H1 H2 hk hP hY => ?_) (fun H' hP => ?_)
  · obtain ⟨rfl, e1⟩ := hY
    obtain ⟨sm, ws, eD, lw, rw_⟩ := hP
    obtain ⟨d, g, md, rx⟩ := repAll_get hD e1
    refine ⟨hw _, hte x d _ _ md (rep_stays (Stays.of sm) _ _ rx) sm fun v' H'' s2 rv => ?_⟩
    have eD2 := s2 _ _ eD
    refine ⟨ws, eD2, small1000 (by omega), same_mut (sm.trans s2) nD, ws ++ [v'], upd_same, by rw [List.length_append, lw]; rfl, ?_⟩
    rw [List.take_add_one, g, List.map_append]
    refine repAll_append (repAll_stays (upd_stays (Stays.of s2) eD2 (.inr rfl)) _ _ rw_) (.cons ?_ .nil)
    refine rep_stays (upd_stays (Stays.of (Same.refl H'')) eD2 (.inr rfl)) _ _ (rep_weak (fun a ha => ?_) _ _ rv)
    rcases ha with h | h
    · exact Same.some sm h
    · subst h
      rw [eD]
      exact fun z => nomatch z
  · obtain ⟨sm, ws, eD, lw, rw_⟩ := hP
    rw [List.take_of_length_le (by omega)] at rw_
    exact hd D H' ws sm nD eD rw_
end OC
set_option Elab.async false
set_option linter.all false
set_option maxRecDepth 100000
set_option maxHeartbeats 2000000
/-! enumerate(t) of a tuple, in a for -/
namespace OC
open PySem PySem.Spec PyProof.Rows L2
open Sem (wp)
theorem meets_enum1 {v : Value} {ob : Obj} {G : Heap → Prop} (B : Begins v ob G) : Meets (Builtin.«enumerate.__new__» ⟨[.type "enumerate", v], []⟩) (fun _ R s => G s.heap ∧ R (.ok (.ret (.ref (s.heap.push ob).objs.size))) { s with heap := (s.heap.push ob).push { cls := .type "enumerate", data := .fields #[.none, .bool false, .ref s.heap.objs.size, rawInt 0, .none, .none] } }) :=
  .of_wp fun P w A R s z => by
    obtain ⟨hp, g, d, tk, os⟩ := s
    obtain ⟨z1, z⟩ := z
    have hsub := sub_enumerate
    have q1 : ∀ {A' : Around} {E' : Value → Shared → Prop} {Q' : Value → Shared → Prop}, Q' (.ref hp.objs.size) ⟨hp.push ob, g, d, tk, os⟩ → wpAny (model P w) A' (pyIter v) Q' E' ⟨hp, g, d, tk, os⟩ := fun y => B.iter P w _ _ ⟨hp, g, d, tk, os⟩ _ z1 y
    wp_walk using q1
    refine wpAny_stack_any fun _ => wpAny_pure ?_
    split
    · rename_i c _ _ _ _ _
      cases (c == Value.type "enumerate") <;> (wp_walk using q1; exact ⟨_, rfl, z⟩)
    · wp_walk using q1
      exact ⟨_, rfl, z⟩
section
variable {P : Program} {w : World} {A : Around} {E : Value → Shared → Prop} {s : Shared}
theorem call_enumB {v : Value} {ob : Obj} {G : Heap → Prop} {Q : Value → Shared → Prop} (B : Begins v ob G) (g : G s.heap)
    (q : ∀ h1 : Heap, IsEnum h1 (s.heap.objs.size + 1) s.heap.objs.size 0 .none → h1.get? s.heap.objs.size = some ob → (∀ b o, s.heap.get? b = some o → h1.get? b = some o) → Q (.ref (s.heap.objs.size + 1)) { s with heap := h1 }) : wpAny (model P w) A (call (.type "enumerate") [v]) Q E s := by
  refine callType_new F.called_enumerate (by decide) (F.typeCall_enumerate_1 _) (F.newCall_enumerate_1 _) (fun z => F.args_object_init_2 z _) F.entry_enumerate_new (meets_enum1 B) ⟨g, ?_⟩
  have sz : (s.heap.push ob).objs.size = s.heap.objs.size + 1 := Heap.size_push ..
  show _ ∧ _
  rw [sz]
  have en : IsEnum ((s.heap.push ob).push { cls := .type "enumerate", data := .fields #[.none, .bool false, .ref s.heap.objs.size, rawInt 0, .none, .none] }) (s.heap.objs.size + 1) s.heap.objs.size 0 .none := by
    have z := Heap.get?_push_size (s.heap.push ob) (o := { cls := .type "enumerate", data := .fields #[.none, .bool false, .ref s.heap.objs.size, rawInt 0, .none, .none] }) rfl
    rw [sz] at z
    exact z
  exact ⟨⟨_, en, rfl⟩, q _ en (Heap.get?_push_of_some _ (Heap.get?_push_size _ B.free)) fun b o z => Heap.get?_push_of_some _ (Heap.get?_push_of_some _ z)⟩
end
/-- the tuple at a, each item in a new pair -/
def IteT (K : PySem.W.Frag) (a : Addr) : It :=
  ⟨fun i H => ∃ (xs : List V) (x : V), SqT K H a xs ∧ xs[i]? = some x,
   fun i H v H' => ∃ T x, v = .ref T ∧ H T = none ∧ H' = upd H T (.tup [.int (i : Nat), x]) ∧ ∀ xs, SqT K H a xs → xs[i]? = some x,
   fun i H => ∃ xs : List V, SqT K H a xs ∧ xs.length ≤ i⟩
theorem turn_enumT {P : Program} {w : World} {K : PySem.W.Frag} {elts : List Expr} {kk : Nat} {tp : Pos} (a e it : Addr) :
    Turn P w K (.Tuple elts kk tp) (IteT K a) [e, it] e (fun i h => (∃ old, IsEnum h e it ((i : Nat) : Int) old) ∧ h.IsTupleIter it a i ∧ e ≠ it) where
  mem := by simp
  obj := fun i h st b hb => by
    obtain ⟨⟨old, he⟩, ⟨o, ho, hc, hd⟩, _⟩ := st
    rcases (by simpa using hb : b = e ∨ b = it) with z | z
    · subst z; exact ⟨_, he, fun v y => nomatch y⟩
    · subst z; exact ⟨o, ho, fun v y => by rw [hd] at y; cases y⟩
  keep := fun i h h' st k => by
    obtain ⟨⟨old, he⟩, hi, ne⟩ := st
    exact ⟨⟨old, k e (by simp) _ he⟩, hi.at fun o y => k it (by simp) o y, ne⟩
  item := by
    intro X hP hw hK hc i pins s σ H E I hf st hg
    subst hP hw hK
    obtain ⟨⟨old, he⟩, hit, ne⟩ := st
    obtain ⟨xs, x, hq, hx⟩ := hg
    obtain ⟨its, rv, tp, hz⟩ := I.tuple hq
    obtain ⟨u, hu, ru⟩ := rv.get hx
    have hel : e < s.heap.objs.size := Heap.lt_size he
    have hil : it < s.heap.objs.size := by obtain ⟨_, y, _⟩ := hit; exact Heap.lt_size y
    have ta : s.heap.IsTuple a its.toArray := tp
    have ai : a ≠ it := fun z => by
      obtain ⟨o1, g1, c1, _⟩ := ta
      obtain ⟨o2, g2, c2, _⟩ := hit
      rw [z, g2] at g1
      rw [← Option.some.inj g1, c2] at c1
      exact absurd (Value.type.inj c1) (by decide)
    have ea : e ≠ a := fun z => by
      obtain ⟨o1, g1, c1, _⟩ := ta
      have he' : s.heap.get? e = some _ := he
      rw [z, g1] at he'
      have := Option.some.inj he'
      rw [this] at c1
      exact absurd (Value.type.inj c1) (by decide)
    have hlt : i < its.toArray.size := by
      have := (List.getElem?_eq_some_iff.mp hu).1
      simpa using this
    refine wpAny_pyNext_enum_itemD (Draws.tuple (A := X.A.in1) (I.ok.hd hc) it a ai its.toArray) he ⟨hit, ta⟩ hlt ne (by simp [ne, ea]) fun u' h1 tk hu' ho st1 hT hsz hk => ?_
    have eu : u' = u := by
      have e1 : its.toArray[i]? = some u := by simpa using hu
      rw [e1] at hu'
      exact (Option.some.inj hu').symm
    subst eu
    refine ⟨_, rfl, wpAny_letOwnedTupleGo_enum (s := { s with heap := h1, toks := tk + 1 }) ho fun h2 he' sb => ?_⟩
    have hT2 : h2.get? s.heap.objs.size = some { cls := .type "tuple", data := .seq #[.int i tk, u'] } := (sb.2 _ (Nat.ne_of_gt hel)).trans hT
    have new : ObjOk X.prog X.w (upd H s.heap.objs.size (.tup [.int (i : Nat), x])) h2 s.heap.objs.size (.tup [.int (i : Nat), x]) := ⟨(by decide : 2 ≤ sizeLine), [.int i tk, u'], .cons ⟨_, rfl⟩ (.cons ru .nil), ⟨_, hT2, rfl, _, rfl⟩⟩
    have I1 : Inv X pins σ (upd H s.heap.objs.size (.tup [.int (i : Nat), x])) { s with heap := h2, toks := tk + 1 } :=
      I.turnedNew (t' := tk + 1) (ch := [e, it]) (fun b ob nb y => (sb.2 b (fun z => nb (by simp [z]))).trans (hk b ob (fun z => nb (by simp [z])) (fun z => nb (by simp [z])) y)) hf (Nat.le_refl _) new
    refine ⟨.ref s.heap.objs.size, _, I1, rfl, ⟨_, x, rfl, I.hok.fresh (Nat.le_refl _), rfl, fun ys hy => by rw [I.tuple_inj hy hq]; exact hx⟩, ⟨⟨u', ?_⟩, st1.1.at fun o y => (sb.2 it (Ne.symm ne)).trans y, ne⟩, fun b hb => ?_⟩
    · rw [show ((i + 1 : Nat) : Int) = (i : Int) + 1 from by omega]
      exact he'
    · have lb : b < s.heap.objs.size := by
        rcases (by simpa using hb : b = e ∨ b = it) with z | z
        · exact z ▸ hel
        · exact z ▸ hil
      rw [upd_ne (Nat.ne_of_lt lb)]
      exact (hf b hb).1
  done := by
    intro X hP hw hK hc i pins s σ H E I hf st hg
    subst hP hw hK
    obtain ⟨⟨old, he⟩, hit, ne⟩ := st
    obtain ⟨xs, hq, hx⟩ := hg
    obtain ⟨its, rv, tp, hz⟩ := I.tuple hq
    obtain ⟨f0, f1, f2, f3, f4, f5⟩ := hf it (by simp)
    have ta : s.heap.IsTuple a its.toArray := tp
    have hl := rv.length
    have hh : X.A.in1.handled = none := I.ok.hd hc
    have hT : s.TypeIs (.ref e) "enumerate" := ⟨_, he, rfl⟩
    unfold pyNext
    refine wpAny_bind (wpAny_attempt (wpAny_callSpecial?_slot (name := Str.ofString "__next__") hT F.slot_enumerate_next (wpAny_call_entry F.slot_enumerate_next hT F.entry_enumerate_next ?_ (F.args_enumerate_next_1 _))))
    show wpAny _ _ (field (.ref e) 2 >>= _) _ _ s
    refine wpAny_bind (wpAny_field he rfl (x := .ref it) rfl (wpAny_bind (wpAny_nextOf_tuple_end hh hit ta (by simp; omega) fun h1 x eb hx' => ?_)))
    obtain ⟨o, ho, hcl⟩ := hx'
    refine wpAny_bind (wpAny_isInstance (T := "StopIteration") (b := true) ⟨o, ho, hcl⟩ isSubtype_stop (wpAny_pure ?_))
    exact ⟨rfl, I.turned (t' := s.toks) (fun b o nb y => eb b o nb y) f0 f1 f3 f4 f5⟩
  self := fun A i s Q E st h => by
    obtain ⟨⟨_, he⟩, _⟩ := st
    exact wpAny_pyIter_enum he h
def iEnumT (K : PySem.W.Frag) (ta : TA) : TI := fun σ H R => ta σ H fun vs H1 => ∃ a xs, vs = [.ref a] ∧ SqT K H1 a xs ∧ R (IteT K a) H1
theorem pi_enumT {X : Cx} {e : Expr} {ta : TA} {p pos tpos : Pos} {elts : List Expr} {kk : Nat} (hg : Gl X "enumerate") (hm : X.mg "enumerate" = none) (ha : PA X [e] ta) (hs : starEach [e] X.env = [(false, eval e X.env)] := by rfl) : PI X (.Tuple elts kk tpos) (.Call (.Name "enumerate" p) [e] [] pos) (iEnumT X.K ta) := by
  refine ⟨fun pins s σ H R I h => Call_ (ld_blt I hg hm boot_enumerate (PyProof.Rows.callWith_type1 (thn (ha.run pos pins s σ H _ I h) fun us s1 ⟨vs, H1, I1, r1, q1⟩ => ?_) hs rfl))⟩
  obtain ⟨a, xs, rfl, hq, q⟩ := q1
  cases r1 with
  | cons r rr =>
    cases rr
    cases r
    obtain ⟨its, rv, tp, hz⟩ := I1.tuple hq
    refine call_enumB (begins_tuple a its.toArray) tp fun h1 he hit hk => wpAny_pyIter_enum he ?_
    refine ⟨s1.heap.objs.size + 1, [s1.heap.objs.size + 1, s1.heap.objs.size], _, _, H1, rfl, I1.kept (t' := s1.toks) hk, turn_enumT a (s1.heap.objs.size + 1) s1.heap.objs.size, ⟨⟨.none, he⟩, ⟨_, hit, rfl, rfl⟩, Nat.succ_ne_self _⟩, fun b hb => ?_, q⟩
    have hle : s1.heap.objs.size ≤ b := by
      rcases (by simpa using hb : b = s1.heap.objs.size + 1 ∨ b = s1.heap.objs.size) with z | z
      · rw [z]; exact Nat.le_add_right _ _
      · rw [z]; exact Nat.le_refl _
    exact I1.fpOk hle (I1.hok.fresh hle)
theorem walk_enumT {K : PySem.W.Frag} {a : Addr} {xs : List V} : Walk (IteT K a) xs.length (fun H => SqT K H a xs) (YPair (fun i => some (.int (i : Nat))) (fun i => xs[i]?)) where
  goes i H hi q := ⟨xs, xs[i], q, List.getElem?_eq_getElem hi⟩
  stops H q := ⟨xs, q, Nat.le_refl _⟩
  yields i H v H' _ q y := by
    obtain ⟨T, x, ev, nT, eH, gx⟩ := y
    exact ⟨T, _, x, ev, nT, eH, rfl, gx xs q⟩
end OC
set_option Elab.async false
set_option linter.all false
set_option maxRecDepth 100000
set_option maxHeartbeats 2000000
/-! sorted(xs, reverse=True) of tuples of as many rests each -/
namespace OC
open PySem PySem.Spec PyProof.Rows L2 SrtO
section
variable {P : Program} {w : World} {A : Around} {s : Shared}
def ltT (h : Heap) (B : Int) : Value → Value → Bool := fun v u => decide (TS.code B (TS.intsOf h v) < TS.code B (TS.intsOf h u))
theorem swo_T (h : Heap) (B : Int) : Swo (ltT h B) where
  asym x y e := by
    have := of_decide_eq_true e
    exact decide_eq_false (by omega)
  tr x y z e1 e2 := by
    have h1 := of_decide_eq_false e1
    have h2 := of_decide_eq_false e2
    exact decide_eq_false (by omega)
theorem tups_sortable {h0 : Heap} {a : Addr} {vs : List Value} {d : Nat} {B : Int} (hd : 1 ≤ d) (h2 : 2 ≤ vs.length) (x : TS.TupsOk s.heap d B vs) (hi : ∀ v ∈ vs, TS.intsOf h0 v = TS.intsOf s.heap v) (ha : ∀ o, s.heap.get? a = some o → o.cls ≠ .type "tuple") : SortableO P w A s a vs (ltT h0 B) := by
  intro h' keep
  have x' : TS.TupsOk h' d B vs := x.keeps fun b o e c => keep b o (fun z => by subst z; exact ha o e c) e
  obtain ⟨fs, k, hl, hf⟩ := TS.firsts_of hd vs x'
  refine ⟨tuples' true, fun Q E hq => ?_, fun p q hp hq => ?_⟩
  · refine PySem.W.kat_kind (T := Value.type "int") k (by omega) (fun f hm => ?_) rfl ?_
    · obtain ⟨n, t, rfl⟩ := hf f hm
      exact PySem.W.Looks.of_pure rfl
    · rw [show (Value.type "int" != Value.type "tuple") = true from by first | decide +kernel | rfl]
      exact hq
  · obtain ⟨ns, tp, lp, bp⟩ := x _ hp
    obtain ⟨ms, tq, lq, bq⟩ := x _ hq
    have kk : ∀ b o, s.heap.get? b = some o → o.cls = .type "tuple" → h'.get? b = some o := fun b o e c => keep b o (fun z => by subst z; exact ha o e c) e
    have e1 : TS.intsOf h0 p.1 = ns := by rw [hi _ hp]; exact tp.ints
    have e2 : TS.intsOf h0 q.1 = ms := by rw [hi _ hq]; exact tq.ints
    have tp' := tp.keeps kk
    have tq' := tq.keeps kk
    show wpAny (model P w) A (keyLt' (tuples' true) p.1 q.1) (fun r s' => s' = { s with heap := h' } ∧ r = ltT h0 B p.1 q.1) (fun _ _ => False) { s with heap := h' }
    unfold ltT
    rw [e1, e2]
    obtain ⟨a1, xs, q1, ⟨o, ho, hc, n, hdt⟩, i⟩ := tp'
    obtain ⟨a2, ys, q2, ⟨o', ho', hc', n', hdt'⟩, i'⟩ := tq'
    rw [q1, q2]
    refine PySem.W.kat_lt (s := { s with heap := h' }) ho hdt ho' hdt' ?_
    have sz : decide (xs.size < ys.size) = false := by
      have l1 := i.length
      have l2 := i'.length
      rw [Array.length_toList] at l1 l2
      exact decide_eq_false (by omega)
    rw [sz]
    exact TS.lex_ints 0 i i' (by omega) bp bq ⟨rfl, rfl⟩
end
def rSortTR (K : PySem.W.Frag) : List V → List V → Hp → VK → Prop := fun vs zs H Q => ∃ (a : Addr) (xs : List V) (d : Nat) (B : Int), vs = [V.ref a] ∧ zs = [.bl true] ∧ 1 ≤ d ∧ SqL K H a xs ∧ (∀ x ∈ xs, ∃ ns, TupI K H x ns ∧ ns.length = d ∧ TS.Bd B ns) ∧
  ∀ (ys : List V) (p : Addr), ys.Perm xs → ys.Pairwise (fun x y => ∀ n m, TupI K H x n → TupI K H y m → TS.code B m ≤ TS.code B n) → H p = none → Q (.ref p) (upd H p (.lst ys))
theorem cr_sortTR {X : Cx} : CallRK X (.builtin "sorted") [Str.ofString "reverse"] (rSortTR X.K) := by
  intro pins s σ H vs zs us ws Q I r rz h
  obtain ⟨a, xs, d, B, rfl, rfl, hd, hs, hx, q⟩ := h
  rw [Vals.ref1 r]
  obtain ⟨w1, rfl, e1⟩ := vals1 rz
  obtain rfl : w1 = Value.bool true := e1
  obtain ⟨its, rv, hl, hz⟩ := I.list hs
  obtain ⟨e1, e2⟩ := bkV_refs rv fun x m => by
    obtain ⟨ns, ⟨t, e, _⟩, _⟩ := hx x m
    exact ⟨t, e⟩
  have tups : TS.TupsOk s.heap d B its := fun v hv => by
    obtain ⟨t, rfl⟩ := e2 v hv
    have hm : V.ref t ∈ xs := by rw [e1]; exact List.mem_map.mpr ⟨_, hv, rfl⟩
    obtain ⟨ns, ⟨t', e, ht⟩, hn, hb⟩ := hx _ hm
    cases e
    exact ⟨ns, tupI_raw I ht, hn, hb⟩
  show wpAny (model X.prog X.w) X.A (call (.builtin "sorted") [.ref a] [(Str.ofString "reverse", .bool true)]) _ _ _
  refine SrtR.sorted_ordK (b := true) (ltv := ltT s.heap B) (fun _ => rfl) (PyProof.Rows.args_sorted_rev _ _) (fun _ => PyProof.Rows.args_list_sort_rev _ _) (swo_T s.heap B) hl.isList (by rw [← rv.length]; exact hz) (fun h2 h1 a' ha' kk => ?_) fun out o1 o2 => ?_
  · have keep : ∀ b o, s.heap.get? b = some o → o.cls = .type "tuple" → h1.get? b = some o := fun b o e _ => (kk b o e).2
    refine tups_sortable (s := { s with heap := h1 }) hd h2 (tups.keeps keep) (fun v hv => ?_) fun o e => ?_
    · obtain ⟨ns, tp, _⟩ := tups v hv
      rw [tp.ints, (tp.keeps keep).ints]
    · have e' : some o = some (seqObj "list" its.toArray 0) := e.symm.trans ha'
      cases e'
      intro c
      exact absurd (Value.type.inj c) (by decide)
  · obtain ⟨ep, he'⟩ := PyProof.Rows.sortedAll_at s.heap its out.toArray.reverse
    have pm : out.Perm its := o2.perm.trans (List.reverse_perm _)
    have h3 : ∀ u ∈ out.reverse, ∃ a, u = Value.ref a := fun u hu => e2 u (pm.mem_iff.mp (List.mem_reverse.mp hu))
    have hp : (out.reverse.map bkV).Perm xs := by
      rw [e1]
      exact ((List.reverse_perm out).trans pm).map bkV
    have hlen : (out.reverse.map bkV).length ≤ sizeLine := by
      rw [hp.length_eq]
      exact hz
    have ea : out.reverse.toArray = out.toArray.reverse := by
      apply Array.ext'
      rw [Array.toList_reverse]
    refine ⟨.ref _, upd H (s.heap.objs.size + 1) (.lst (out.reverse.map bkV)), I.laid (t' := s.toks) (fun _ _ => PyProof.Rows.sortedAll_old) (Nat.le_succ _) ⟨hlen, out.reverse, ep, bkV_vals h3, by rw [ea]; exact he'⟩, rfl, q _ _ hp ?_ (I.hok.fresh (Nat.le_succ _))⟩
    rw [List.pairwise_map, List.pairwise_reverse]
    refine o1.imp fun {u v} huv n m hn hm => ?_
    obtain ⟨t, et, ht⟩ := hn
    obtain ⟨t', et', ht'⟩ := hm
    have i1 : TS.intsOf s.heap v = n := by
      rw [bkV_ref et]
      exact (tupI_raw I ht).ints
    have i2 : TS.intsOf s.heap u = m := by
      rw [bkV_ref et']
      exact (tupI_raw I ht').ints
    have z := of_decide_eq_false huv
    rw [i1, i2] at z
    omega
end OC
/-! Linear algebra over Fin p, vectors as functions: spans, plain forms, their uniqueness. Core Lean alone. -/
namespace Lin
set_option linter.all false
section
variable {p : Nat} [NeZero p]
abbrev Vec (p : Nat) := Nat → Fin p
def zeroV : Vec p := fun _ => 0
def addV (x y : Vec p) : Vec p := fun i => x i + y i
def mulV (c : Fin p) (x : Vec p) : Vec p := fun i => c * x i
/-- closed under sums and multiples -/
structure Sub (S : Vec p → Prop) : Prop where
  zero : S zeroV
  add : ∀ {x y}, S x → S y → S (addV x y)
  mul : ∀ (c : Fin p) {x}, S x → S (mulV c x)
def lin : List (Fin p) → List (Vec p) → Vec p
  | f :: fs, v :: vs => addV (mulV f v) (lin fs vs)
  | _, _ => zeroV
def Spn (vs : List (Vec p)) (x : Vec p) : Prop := ∃ fs : List (Fin p), x = lin fs vs
theorem zero_add (x : Vec p) : addV zeroV x = x := by
  funext i
  show (0 : Fin p) + x i = x i
  grind
theorem lin_nil (vs : List (Vec p)) : lin [] vs = zeroV := by cases vs <;> rfl
theorem lin_nil' (fs : List (Fin p)) : lin fs ([] : List (Vec p)) = zeroV := by cases fs <;> rfl
def addF : List (Fin p) → List (Fin p) → List (Fin p)
  | f :: fs, g :: gs => (f + g) :: addF fs gs
  | [], gs => gs
  | fs, [] => fs
theorem lin_add : ∀ (vs : List (Vec p)) (fs gs : List (Fin p)), addV (lin fs vs) (lin gs vs) = lin (addF fs gs) vs
  | [], fs, gs => by
    rw [lin_nil', lin_nil', lin_nil', zero_add]
  | v :: vs, [], gs => by
    rw [lin_nil, zero_add]
    simp only [addF]
  | v :: vs, f :: fs, [] => by
    rw [lin_nil]
    simp only [addF]
    funext i
    show lin (f :: fs) (v :: vs) i + (0 : Fin p) = lin (f :: fs) (v :: vs) i
    grind
  | v :: vs, f :: fs, g :: gs => by
    have ih := lin_add vs fs gs
    simp only [addF, lin]
    rw [← ih]
    funext i
    show f * v i + lin fs vs i + (g * v i + lin gs vs i) = (f + g) * v i + (lin fs vs i + lin gs vs i)
    grind
theorem lin_mul (c : Fin p) : ∀ (vs : List (Vec p)) (fs : List (Fin p)), mulV c (lin fs vs) = lin (fs.map (c * ·)) vs
  | [], fs => by
    rw [lin_nil', lin_nil']
    funext i
    show c * (0 : Fin p) = 0
    grind
  | v :: vs, [] => by
    rw [List.map_nil, lin_nil]
    funext i
    show c * (0 : Fin p) = 0
    grind
  | v :: vs, f :: fs => by
    have ih := lin_mul c vs fs
    rw [List.map_cons]
    simp only [lin]
    rw [← ih]
    funext i
    show c * (f * v i + lin fs vs i) = c * f * v i + c * lin fs vs i
    grind
theorem spn_sub (vs : List (Vec p)) : Sub (Spn vs) where
  zero := ⟨[], (lin_nil vs).symm⟩
  add := by
    rintro x y ⟨fs, rfl⟩ ⟨gs, rfl⟩
    exact ⟨_, lin_add vs fs gs⟩
  mul := by
    rintro c x ⟨fs, rfl⟩
    exact ⟨_, lin_mul c vs fs⟩
theorem spn_tail {v : Vec p} {vs : List (Vec p)} {x : Vec p} (h : Spn vs x) : Spn (v :: vs) x := by
  obtain ⟨fs, rfl⟩ := h
  refine ⟨0 :: fs, ?_⟩
  funext i
  show lin fs vs i = 0 * v i + lin fs vs i
  grind
theorem spn_mem : ∀ {vs : List (Vec p)} {v : Vec p}, v ∈ vs → Spn vs v
  | w :: vs, v, h => by
    rcases List.mem_cons.mp h with rfl | h
    · refine ⟨[1], ?_⟩
      funext i
      show v i = 1 * v i + lin [] vs i
      rw [lin_nil]
      show v i = 1 * v i + (0 : Fin p)
      grind
    · exact spn_tail (spn_mem h)
theorem spn_le {S : Vec p → Prop} (hS : Sub S) : ∀ {vs : List (Vec p)}, (∀ v ∈ vs, S v) → ∀ {x}, Spn vs x → S x
  | [], _, x, ⟨fs, e⟩ => by
    rw [e, lin_nil']
    exact hS.zero
  | v :: vs, h, x, ⟨[], e⟩ => by
    rw [e, lin_nil]
    exact hS.zero
  | v :: vs, h, x, ⟨f :: fs, e⟩ => by
    rw [e]
    exact hS.add (hS.mul f (h v List.mem_cons_self)) (spn_le hS (fun w hw => h w (List.mem_cons_of_mem _ hw)) ⟨fs, rfl⟩)
theorem spn_sub_of {vs ws : List (Vec p)} (h : ∀ v ∈ vs, Spn ws v) {x : Vec p} (hx : Spn vs x) : Spn ws x := spn_le (spn_sub ws) h hx
theorem Sub.less {S : Vec p → Prop} (hS : Sub S) {x y : Vec p} (c : Fin p) (hx : S x) (hy : S y) : S (fun i => x i - c * y i) := by
  have h := hS.add hx (hS.mul (-c) hy)
  have e : addV x (mulV (-c) y) = fun i => x i - c * y i := by
    funext i
    show x i + -c * y i = x i - c * y i
    grind
  rw [e] at h
  exact h
/-! ### plain forms: pairs of a first place and a row -/
structure PF (n : Nat) (bs : List (Nat × Vec p)) : Prop where
  inc : bs.Pairwise (fun a b => a.1 < b.1)
  lt : ∀ b ∈ bs, b.1 < n
  one : ∀ b ∈ bs, b.2 b.1 = 1
  low : ∀ b ∈ bs, ∀ i, i < b.1 → b.2 i = 0
  off : ∀ b ∈ bs, ∀ c ∈ bs, b.1 ≠ c.1 → b.2 c.1 = 0
  wid : ∀ b ∈ bs, ∀ i, n ≤ i → b.2 i = 0
/-- the part of x that the rows tell by its rests at their first places -/
def red : List (Nat × Vec p) → Vec p → Vec p
  | [], _ => zeroV
  | b :: bs, x => addV (mulV (x b.1) b.2) (red bs x)
theorem red_add : ∀ (bs : List (Nat × Vec p)) (x y : Vec p), red bs (addV x y) = addV (red bs x) (red bs y)
  | [], x, y => by simp only [red]; rw [zero_add]
  | b :: bs, x, y => by
    simp only [red]
    rw [red_add bs x y]
    funext i
    show (x b.1 + y b.1) * b.2 i + (red bs x i + red bs y i) = x b.1 * b.2 i + red bs x i + (y b.1 * b.2 i + red bs y i)
    grind
theorem red_mul (c : Fin p) : ∀ (bs : List (Nat × Vec p)) (x : Vec p), red bs (mulV c x) = mulV c (red bs x)
  | [], x => by
    simp only [red]
    funext i
    show (0 : Fin p) = c * 0
    grind
  | b :: bs, x => by
    simp only [red]
    rw [red_mul c bs x]
    funext i
    show c * x b.1 * b.2 i + c * red bs x i = c * (x b.1 * b.2 i + red bs x i)
    grind
theorem red_zero (bs : List (Nat × Vec p)) : red bs zeroV = zeroV := by
  have h := red_mul (0 : Fin p) bs zeroV
  have e : mulV (0 : Fin p) (zeroV : Vec p) = zeroV := by
    funext i
    show (0 : Fin p) * 0 = 0
    grind
  rw [e] at h
  rw [h]
  funext i
  show (0 : Fin p) * red bs zeroV i = 0
  grind
theorem red_none : ∀ (l : List (Nat × Vec p)) (x : Vec p), (∀ b ∈ l, x b.1 = 0) → red l x = zeroV
  | [], _, _ => rfl
  | b :: l, x, h => by
    simp only [red]
    rw [red_none l x fun c hc => h c (List.mem_cons_of_mem _ hc), h b List.mem_cons_self]
    funext i
    show (0 : Fin p) * b.2 i + 0 = 0
    grind
theorem red_one : ∀ (l : List (Nat × Vec p)) (b : Nat × Vec p), b ∈ l → l.Pairwise (fun a c => a.1 < c.1) → b.2 b.1 = 1 → (∀ c ∈ l, b.1 ≠ c.1 → b.2 c.1 = 0) → red l b.2 = b.2
  | a :: l, b, hb, inc, h1, h0 => by
    have inc' := List.pairwise_cons.mp inc
    simp only [red]
    rcases List.mem_cons.mp hb with rfl | hb
    · rw [red_none l b.2 fun c hc => h0 c (List.mem_cons_of_mem _ hc) (Nat.ne_of_lt (inc'.1 c hc)), h1]
      funext i
      show (1 : Fin p) * b.2 i + 0 = b.2 i
      grind
    · rw [red_one l b hb inc'.2 h1 fun c hc => h0 c (List.mem_cons_of_mem _ hc), h0 a List.mem_cons_self (Nat.ne_of_gt (inc'.1 b hb))]
      funext i
      show (0 : Fin p) * a.2 i + b.2 i = b.2 i
      grind
/-- a row of the room is told by its rests at the first places -/
theorem PF.told {n : Nat} {bs : List (Nat × Vec p)} (h : PF n bs) {x : Vec p} (hx : Spn (bs.map (·.2)) x) : red bs x = x := by
  have hS : Sub (fun x : Vec p => red bs x = x) := by
    refine ⟨red_zero bs, fun {x y} hx hy => ?_, fun c {x} hx => ?_⟩
    · show red bs (addV x y) = addV x y
      rw [red_add, hx, hy]
    · show red bs (mulV c x) = mulV c x
      rw [red_mul, hx]
  refine spn_le hS (fun v hv => ?_) hx
  obtain ⟨b, hb, rfl⟩ := List.mem_map.mp hv
  exact red_one bs b hb h.inc (h.one b hb) fun c hc ne => h.off b hb c hc ne
theorem spn_red : ∀ (bs : List (Nat × Vec p)) (x : Vec p), Spn (bs.map (·.2)) (red bs x)
  | [], x => (spn_sub _).zero
  | b :: bs, x => (spn_sub _).add ((spn_sub _).mul _ (spn_mem (by simp))) (spn_tail (spn_red bs x))
/-- a first place of a row -/
def Lead (x : Vec p) (j : Nat) : Prop := x j ≠ 0 ∧ ∀ i, i < j → x i = 0
theorem red_low : ∀ (l : List (Nat × Vec p)) (x : Vec p) (j : Nat), (∀ i, i < j → x i = 0) → (∀ b ∈ l, b.1 ≠ j) → (∀ b ∈ l, ∀ i, i < b.1 → b.2 i = 0) → red l x j = 0
  | [], _, _, _, _, _ => rfl
  | b :: l, x, j, hx, hn, hl => by
    have ih := red_low l x j hx (fun c hc => hn c (List.mem_cons_of_mem _ hc)) fun c hc => hl c (List.mem_cons_of_mem _ hc)
    show x b.1 * b.2 j + red l x j = 0
    rw [ih]
    rcases Nat.lt_or_ge b.1 j with h | h
    · rw [hx b.1 h]
      grind
    · have h2 : j < b.1 := Nat.lt_of_le_of_ne h (Ne.symm (hn b List.mem_cons_self))
      rw [hl b List.mem_cons_self j h2]
      grind
theorem PF.lead {n : Nat} {bs : List (Nat × Vec p)} (h : PF n bs) {x : Vec p} {j : Nat} (hx : Spn (bs.map (·.2)) x) (hj : Lead x j) : ∃ b ∈ bs, b.1 = j := by
  apply Classical.byContradiction
  intro hn
  have e := h.told hx
  apply hj.1
  rw [← e]
  exact red_low bs x j hj.2 (fun b hb e => hn ⟨b, hb, e⟩) h.low
theorem PF.leads {n : Nat} {bs : List (Nat × Vec p)} (h : PF n bs) (h1 : (1 : Fin p) ≠ 0) {b : Nat × Vec p} (hb : b ∈ bs) : Lead b.2 b.1 := ⟨by rw [h.one b hb]; exact h1, h.low b hb⟩
theorem sorted_eq : ∀ {l m : List Nat}, l.Pairwise (· < ·) → m.Pairwise (· < ·) → (∀ x, x ∈ l ↔ x ∈ m) → l = m
  | [], [], _, _, _ => rfl
  | [], b :: m, _, _, h => by simpa using (h b).mpr List.mem_cons_self
  | a :: l, [], _, _, h => by simpa using (h a).mp List.mem_cons_self
  | a :: l, b :: m, hl, hm, h => by
    have hl' := List.pairwise_cons.mp hl
    have hm' := List.pairwise_cons.mp hm
    have e : a = b := by
      rcases List.mem_cons.mp ((h a).mp List.mem_cons_self) with e | e
      · exact e
      · rcases List.mem_cons.mp ((h b).mpr List.mem_cons_self) with e2 | e2
        · exact e2.symm
        · have := hm'.1 a e
          have := hl'.1 b e2
          omega
    subst e
    congr 1
    refine sorted_eq hl'.2 hm'.2 fun x => ⟨fun hx => ?_, fun hx => ?_⟩
    · rcases List.mem_cons.mp ((h x).mp (List.mem_cons_of_mem _ hx)) with e | e
      · have := hl'.1 x hx
        omega
      · exact e
    · rcases List.mem_cons.mp ((h x).mpr (List.mem_cons_of_mem _ hx)) with e | e
      · have := hm'.1 x hx
        omega
      · exact e
theorem pairs_eq : ∀ {bs cs : List (Nat × Vec p)}, bs.map (·.1) = cs.map (·.1) → (∀ b ∈ bs, ∀ c ∈ cs, b.1 = c.1 → b.2 = c.2) → bs = cs
  | [], [], _, _ => rfl
  | [], _ :: _, e, _ => by cases e
  | _ :: _, [], e, _ => by cases e
  | b :: bs, c :: cs, e, h => by
    rw [List.map_cons, List.map_cons] at e
    have e1 : b.1 = c.1 := (List.cons.inj e).1
    have e2 := h b List.mem_cons_self c List.mem_cons_self e1
    have e3 : b = c := by
      cases b
      cases c
      simp only at e1 e2
      rw [e1, e2]
    rw [e3, pairs_eq (List.cons.inj e).2 fun x hx y hy => h x (List.mem_cons_of_mem _ hx) y (List.mem_cons_of_mem _ hy)]
/-- each room has just one plain form -/
theorem PF.uniq {n m : Nat} {bs cs : List (Nat × Vec p)} (h1 : (1 : Fin p) ≠ 0) (hb : PF n bs) (hc : PF m cs) (h : ∀ x, Spn (bs.map (·.2)) x ↔ Spn (cs.map (·.2)) x) : bs = cs := by
  have inB : ∀ b ∈ bs, ∃ c ∈ cs, c.1 = b.1 := fun b m => hc.lead ((h _).mp (spn_mem (List.mem_map_of_mem m))) (hb.leads h1 m)
  have inC : ∀ c ∈ cs, ∃ b ∈ bs, b.1 = c.1 := fun c m => hb.lead ((h _).mpr (spn_mem (List.mem_map_of_mem m))) (hc.leads h1 m)
  have ef : bs.map (·.1) = cs.map (·.1) := by
    refine sorted_eq ?_ ?_ fun x => ⟨fun hx => ?_, fun hx => ?_⟩
    · exact List.pairwise_map.mpr hb.inc
    · exact List.pairwise_map.mpr hc.inc
    · obtain ⟨b, m, rfl⟩ := List.mem_map.mp hx
      obtain ⟨c, m', e⟩ := inB b m
      exact List.mem_map.mpr ⟨c, m', e⟩
    · obtain ⟨c, m, rfl⟩ := List.mem_map.mp hx
      obtain ⟨b, m', e⟩ := inC c m
      exact List.mem_map.mpr ⟨b, m', e⟩
  refine pairs_eq ef fun b mb c mc e => ?_
  have hx : Spn (cs.map (·.2)) b.2 := (h _).mp (spn_mem (List.mem_map_of_mem mb))
  have t := hc.told hx
  rw [← t]
  -- b's rests at the first places of cs are those of c
  have key : ∀ l : List (Nat × Vec p), (∀ d ∈ l, b.2 d.1 = c.2 d.1) → red l b.2 = red l c.2 := by
    intro l
    induction l with
    | nil => intro _; rfl
    | cons d l ih =>
      intro hd
      simp only [red]
      rw [hd d List.mem_cons_self, ih fun x hx => hd x (List.mem_cons_of_mem _ hx)]
  rw [key cs fun d md => ?_]
  · exact red_one cs c mc hc.inc (hc.one c mc) fun d md ne => hc.off c mc d md ne
  · by_cases ne : b.1 = d.1
    · rw [← ne, hb.one b mb, e, hc.one c mc]
    · obtain ⟨b', mb', e'⟩ := inC d md
      rw [← e', hb.off b mb b' mb' (by rw [e']; exact ne), e', hc.off c mc d md (by rw [← e]; exact ne)]
theorem red_at : ∀ (l : List (Nat × Vec p)) (x : Vec p) (c : Nat × Vec p), c ∈ l → l.Pairwise (fun a b => a.1 < b.1) → c.2 c.1 = 1 → (∀ b ∈ l, b.1 ≠ c.1 → b.2 c.1 = 0) → red l x c.1 = x c.1
  | a :: l, x, c, hc, inc, h1, h0 => by
    have inc' := List.pairwise_cons.mp inc
    show x a.1 * a.2 c.1 + red l x c.1 = x c.1
    rcases List.mem_cons.mp hc with rfl | hc
    · have z : ∀ m : List (Nat × Vec p), (∀ b ∈ m, b.2 c.1 = 0) → red m x c.1 = 0 := by
        intro m
        induction m with
        | nil => intro _; rfl
        | cons b m ih =>
          intro hm
          show x b.1 * b.2 c.1 + red m x c.1 = 0
          rw [hm b List.mem_cons_self, ih fun y hy => hm y (List.mem_cons_of_mem _ hy)]
          grind
      rw [z l fun b hb => h0 b (List.mem_cons_of_mem _ hb) (Nat.ne_of_gt (inc'.1 b hb)), h1]
      grind
    · rw [red_at l x c hc inc'.2 h1 fun b hb => h0 b (List.mem_cons_of_mem _ hb), h0 a List.mem_cons_self (Nat.ne_of_lt (inc'.1 c hc))]
      grind
theorem PF.at {n : Nat} {bs : List (Nat × Vec p)} (h : PF n bs) (x : Vec p) {c : Nat × Vec p} (hc : c ∈ bs) : red bs x c.1 = x c.1 :=
  red_at bs x c hc h.inc (h.one c hc) fun b hb ne => h.off b hb c hc ne
theorem sorted_len : ∀ {l m : List Nat}, l.Pairwise (· < ·) → m.Pairwise (· < ·) → (∀ x ∈ l, x ∈ m) → l.length ≤ m.length ∧ (m.length ≤ l.length → ∀ x ∈ m, x ∈ l)
  | [], m, _, _, _ => ⟨Nat.zero_le _, fun h x hx => by
      cases m with
      | nil => exact hx
      | cons a b => simp at h⟩
  | a :: l, [], _, _, h => by simpa using h a List.mem_cons_self
  | a :: l, b :: m, hl, hm, h => by
    have hl' := List.pairwise_cons.mp hl
    have hm' := List.pairwise_cons.mp hm
    by_cases e : a = b
    · subst e
      have ih := sorted_len hl'.2 hm'.2 fun x hx => by
        rcases List.mem_cons.mp (h x (List.mem_cons_of_mem _ hx)) with e | e
        · have := hl'.1 x hx
          omega
        · exact e
      refine ⟨by simpa using ih.1, fun hle x hx => ?_⟩
      rcases List.mem_cons.mp hx with rfl | hx
      · exact List.mem_cons_self
      · exact List.mem_cons_of_mem _ (ih.2 (by simpa using hle) x hx)
    · have ha : a ∈ m := by
        rcases List.mem_cons.mp (h a List.mem_cons_self) with z | z
        · exact absurd z e
        · exact z
      have ih := sorted_len (l := a :: l) hl hm'.2 fun x hx => by
        rcases List.mem_cons.mp (h x hx) with z | z
        · rcases List.mem_cons.mp hx with y | y
          · omega
          · have := hl'.1 x y
            have := hm'.1 a ha
            omega
        · exact z
      refine ⟨Nat.le_succ_of_le ih.1, fun hle => ?_⟩
      have := ih.1
      simp only [List.length_cons] at this hle
      omega
theorem PF.firsts_sub {n m : Nat} {bs cs : List (Nat × Vec p)} (hb : PF n bs) (hc : PF m cs) (h1 : (1 : Fin p) ≠ 0) (h : ∀ x, Spn (bs.map (·.2)) x → Spn (cs.map (·.2)) x) : ∀ j ∈ bs.map (·.1), j ∈ cs.map (·.1) := by
  intro j hj
  obtain ⟨b, mb, rfl⟩ := List.mem_map.mp hj
  obtain ⟨c, mc, e⟩ := hc.lead (h _ (spn_mem (List.mem_map_of_mem mb))) (hb.leads h1 mb)
  exact List.mem_map.mpr ⟨c, mc, e⟩
theorem PF.len_le {n m : Nat} {bs cs : List (Nat × Vec p)} (hb : PF n bs) (hc : PF m cs) (h1 : (1 : Fin p) ≠ 0) (h : ∀ x, Spn (bs.map (·.2)) x → Spn (cs.map (·.2)) x) : bs.length ≤ cs.length := by
  have := (sorted_len (List.pairwise_map.mpr hb.inc) (List.pairwise_map.mpr hc.inc) (hb.firsts_sub hc h1 h)).1
  rw [List.length_map, List.length_map] at this
  exact this
/-- one room within another, with as many first places: the same -/
theorem PF.same_of_len {n m : Nat} {bs cs : List (Nat × Vec p)} (hb : PF n bs) (hc : PF m cs) (h1 : (1 : Fin p) ≠ 0) (h : ∀ x, Spn (bs.map (·.2)) x → Spn (cs.map (·.2)) x) (hl : cs.length ≤ bs.length) {x : Vec p} (hx : Spn (cs.map (·.2)) x) : Spn (bs.map (·.2)) x := by
  have back := (sorted_len (List.pairwise_map.mpr hb.inc) (List.pairwise_map.mpr hc.inc) (hb.firsts_sub hc h1 h)).2 (by rw [List.length_map, List.length_map]; exact hl)
  have hy : Spn (cs.map (·.2)) (fun i => x i - 1 * red bs x i) := (spn_sub _).less 1 hx (h _ (spn_red bs x))
  have t := hc.told hy
  have z : red cs (fun i => x i - 1 * red bs x i) = zeroV := red_none cs _ fun c mc => by
    obtain ⟨b, mb, e⟩ := List.mem_map.mp (back c.1 (List.mem_map_of_mem mc))
    have := hb.at x mb
    show x c.1 - 1 * red bs x c.1 = 0
    rw [← e, this]
    grind
  rw [z] at t
  have e : x = red bs x := by
    funext i
    have := congrFun t i
    have this : (0 : Fin p) = x i - 1 * red bs x i := this
    grind
  rw [e]
  exact spn_red bs x
/-! ### taking off, place by place -/
variable (inv : Fin p → Fin p)
def lessV (x own : Vec p) (j : Nat) : Vec p := fun i => x i - x j * own i
def ownV (a : Vec p) (j : Nat) : Vec p := mulV (inv (a j)) a
def stepV (st : List (Vec p) × List (Nat × Vec p)) (k : Nat) : List (Vec p) × List (Nat × Vec p) :=
  match st.1.filter (fun x => decide (x k ≠ 0)) with
  | [] => st
  | a :: _ => (st.1.map fun x => lessV x (ownV inv a k) k, (st.2.map fun b => (b.1, lessV b.2 (ownV inv a k) k)) ++ [(k, ownV inv a k)])
def plainV (n : Nat) (vs : List (Vec p)) : List (Nat × Vec p) := ((List.range n).foldl (stepV inv) (vs, [])).2
structure StepOk (n k : Nat) (vs : List (Vec p)) (st : List (Vec p) × List (Nat × Vec p)) : Prop where
  low : ∀ x ∈ st.1, ∀ i, i < k → x i = 0
  wid : ∀ x ∈ st.1, ∀ i, n ≤ i → x i = 0
  pf : PF n st.2
  below : ∀ b ∈ st.2, b.1 < k
  to : ∀ x, Spn (st.1 ++ st.2.map (·.2)) x → Spn vs x
  from_ : ∀ x, Spn vs x → Spn (st.1 ++ st.2.map (·.2)) x
theorem filter_head {α : Type} {q : α → Bool} {l : List α} {a : α} {r : List α} (h : l.filter q = a :: r) : a ∈ l ∧ q a = true := by
  have : a ∈ l.filter q := by rw [h]; exact List.mem_cons_self
  exact List.mem_filter.mp this
theorem step_ok {n k : Nat} {vs : List (Vec p)} {st : List (Vec p) × List (Nat × Vec p)} (hinv : ∀ a : Fin p, a ≠ 0 → inv a * a = 1) (hk : k < n) (h : StepOk n k vs st) : StepOk n (k + 1) vs (stepV inv st k) := by
  unfold stepV
  split
  · rename_i hf
    refine ⟨fun x hx i hi => ?_, h.wid, h.pf, fun b hb => Nat.lt_succ_of_lt (h.below b hb), h.to, h.from_⟩
    by_cases e : i = k
    · subst e
      apply Classical.byContradiction
      intro hne
      have : x ∈ st.1.filter (fun x => decide (x i ≠ 0)) := List.mem_filter.mpr ⟨hx, decide_eq_true hne⟩
      rw [hf] at this
      cases this
    · exact h.low x hx i (by omega)
  · rename_i a r hf
    obtain ⟨ha, hq⟩ := filter_head hf
    have hak : a k ≠ 0 := of_decide_eq_true hq
    have ok1 : ownV inv a k k = 1 := hinv _ hak
    have okl : ∀ i, i < k → ownV inv a k i = 0 := fun i hi => by
      show inv (a k) * a i = 0
      rw [h.low a ha i hi]
      grind
    have okw : ∀ i, n ≤ i → ownV inv a k i = 0 := fun i hi => by
      show inv (a k) * a i = 0
      rw [h.wid a ha i hi]
      grind
    have less_k : ∀ x : Vec p, lessV x (ownV inv a k) k k = 0 := fun x => by
      show x k - x k * ownV inv a k k = 0
      rw [ok1]
      grind
    have less_lt : ∀ (x : Vec p) i, i < k → lessV x (ownV inv a k) k i = x i := fun x i hi => by
      show x i - x k * ownV inv a k i = x i
      rw [okl i hi]
      grind
    have less_w : ∀ (x : Vec p) i, n ≤ i → x i = 0 → lessV x (ownV inv a k) k i = 0 := fun x i hi hx => by
      show x i - x k * ownV inv a k i = 0
      rw [okw i hi, hx]
      grind
    have own_in : Spn (st.1 ++ st.2.map (·.2)) (ownV inv a k) := (spn_sub _).mul _ (spn_mem (List.mem_append_left _ ha))
    generalize ownV inv a k = own at *
    refine ⟨?_, ?_, ⟨?_, ?_, ?_, ?_, ?_, ?_⟩, ?_, ?_, ?_⟩
    · intro x hx i hi
      obtain ⟨y, my, rfl⟩ := List.mem_map.mp hx
      by_cases e : i = k
      · subst e
        exact less_k y
      · rw [less_lt y i (by omega)]
        exact h.low y my i (by omega)
    · intro x hx i hi
      obtain ⟨y, my, rfl⟩ := List.mem_map.mp hx
      exact less_w y i hi (h.wid y my i hi)
    · refine List.pairwise_append.mpr ⟨?_, List.pairwise_singleton _ _, fun b hb c hc => ?_⟩
      · exact List.pairwise_map.mpr h.pf.inc
      · obtain ⟨b', mb, rfl⟩ := List.mem_map.mp hb
        have : c = (k, own) := by simpa using hc
        subst this
        exact h.below b' mb
    · intro b hb
      rcases List.mem_append.mp hb with hb | hb
      · obtain ⟨b', mb, rfl⟩ := List.mem_map.mp hb
        exact h.pf.lt b' mb
      · have : b = (k, own) := by simpa using hb
        subst this
        exact hk
    · intro b hb
      rcases List.mem_append.mp hb with hb | hb
      · obtain ⟨b', mb, rfl⟩ := List.mem_map.mp hb
        show lessV b'.2 own k b'.1 = 1
        rw [less_lt _ _ (h.below b' mb)]
        exact h.pf.one b' mb
      · have : b = (k, own) := by simpa using hb
        subst this
        exact ok1
    · intro b hb i hi
      rcases List.mem_append.mp hb with hb | hb
      · obtain ⟨b', mb, rfl⟩ := List.mem_map.mp hb
        have hi : i < b'.1 := hi
        show lessV b'.2 own k i = 0
        rw [less_lt _ _ (Nat.lt_trans hi (h.below b' mb))]
        exact h.pf.low b' mb i hi
      · have : b = (k, own) := by simpa using hb
        subst this
        exact okl i hi
    · intro b hb c hc ne
      rcases List.mem_append.mp hb with hb | hb
      · obtain ⟨b', mb, rfl⟩ := List.mem_map.mp hb
        rcases List.mem_append.mp hc with hc | hc
        · obtain ⟨c', mc, rfl⟩ := List.mem_map.mp hc
          show lessV b'.2 own k c'.1 = 0
          rw [less_lt _ _ (h.below c' mc)]
          exact h.pf.off b' mb c' mc ne
        · have : c = (k, own) := by simpa using hc
          subst this
          exact less_k b'.2
      · have : b = (k, own) := by simpa using hb
        subst this
        rcases List.mem_append.mp hc with hc | hc
        · obtain ⟨c', mc, rfl⟩ := List.mem_map.mp hc
          exact okl c'.1 (h.below c' mc)
        · have : c = (k, own) := by simpa using hc
          subst this
          exact absurd rfl ne
    · intro b hb i hi
      rcases List.mem_append.mp hb with hb | hb
      · obtain ⟨b', mb, rfl⟩ := List.mem_map.mp hb
        exact less_w b'.2 i hi (h.pf.wid b' mb i hi)
      · have : b = (k, own) := by simpa using hb
        subst this
        exact okw i hi
    · intro b hb
      rcases List.mem_append.mp hb with hb | hb
      · obtain ⟨b', mb, rfl⟩ := List.mem_map.mp hb
        exact Nat.lt_succ_of_lt (h.below b' mb)
      · have : b = (k, own) := by simpa using hb
        subst this
        exact Nat.lt_succ_self k
    · intro x hx
      refine h.to x (spn_sub_of (fun v hv => ?_) hx)
      rcases List.mem_append.mp hv with hv | hv
      · obtain ⟨y, my, rfl⟩ := List.mem_map.mp hv
        exact (spn_sub _).less (y k) (spn_mem (List.mem_append_left _ my)) own_in
      · obtain ⟨b, mb, rfl⟩ := List.mem_map.mp hv
        rcases List.mem_append.mp mb with mb | mb
        · obtain ⟨b', mb', rfl⟩ := List.mem_map.mp mb
          exact (spn_sub _).less (b'.2 k) (spn_mem (List.mem_append_right _ (List.mem_map_of_mem mb'))) own_in
        · have : b = (k, own) := by simpa using mb
          subst this
          exact own_in
    · intro x hx
      have own_in' : Spn (st.1.map (fun x => lessV x own k) ++ ((st.2.map fun b => (b.1, lessV b.2 own k)) ++ [(k, own)]).map (·.2)) own := spn_mem (by simp)
      have back : ∀ y : Vec p, Spn (st.1.map (fun x => lessV x own k) ++ ((st.2.map fun b => (b.1, lessV b.2 own k)) ++ [(k, own)]).map (·.2)) (lessV y own k) → Spn (st.1.map (fun x => lessV x own k) ++ ((st.2.map fun b => (b.1, lessV b.2 own k)) ++ [(k, own)]).map (·.2)) y := by
        intro y hy
        have := (spn_sub _).add hy ((spn_sub _).mul (y k) own_in')
        have e : addV (lessV y own k) (mulV (y k) own) = y := by
          funext i
          show y i - y k * own i + y k * own i = y i
          grind
        rw [e] at this
        exact this
      refine spn_sub_of (fun v hv => ?_) (h.from_ x hx)
      rcases List.mem_append.mp hv with hv | hv
      · exact back v (spn_mem (List.mem_append_left _ (List.mem_map_of_mem hv)))
      · obtain ⟨b, mb, rfl⟩ := List.mem_map.mp hv
        refine back b.2 (spn_mem (List.mem_append_right _ ?_))
        refine List.mem_map.mpr ⟨(b.1, lessV b.2 own k), List.mem_append_left _ (List.mem_map.mpr ⟨b, mb, rfl⟩), rfl⟩
theorem steps_ok {n : Nat} {vs : List (Vec p)} (hinv : ∀ a : Fin p, a ≠ 0 → inv a * a = 1) (hw : ∀ x ∈ vs, ∀ i, n ≤ i → x i = 0) : ∀ k, k ≤ n → StepOk n k vs ((List.range k).foldl (stepV inv) (vs, []))
  | 0, _ => by
    refine ⟨fun x _ i hi => absurd hi (Nat.not_lt_zero i), hw, ⟨.nil, fun b h => (nomatch h), fun b h => (nomatch h), fun b h => (nomatch h), fun b h => (nomatch h), fun b h => (nomatch h)⟩, fun b h => (nomatch h), fun x hx => ?_, fun x hx => ?_⟩
    · simpa using hx
    · simpa using hx
  | k + 1, hk => by
    rw [List.range_succ, List.foldl_append]
    exact step_ok inv hinv (by omega) (steps_ok hinv hw k (by omega))
/-- taking off, place by place, tells the plain form of what the rows make -/
theorem plainV_pf {n : Nat} {vs : List (Vec p)} (hinv : ∀ a : Fin p, a ≠ 0 → inv a * a = 1) (hw : ∀ x ∈ vs, ∀ i, n ≤ i → x i = 0) : PF n (plainV inv n vs) := (steps_ok inv hinv hw n (Nat.le_refl n)).pf
theorem plainV_spn {n : Nat} {vs : List (Vec p)} (hinv : ∀ a : Fin p, a ≠ 0 → inv a * a = 1) (hw : ∀ x ∈ vs, ∀ i, n ≤ i → x i = 0) (x : Vec p) : Spn ((plainV inv n vs).map (·.2)) x ↔ Spn vs x := by
  have h := steps_ok inv hinv hw n (Nat.le_refl n)
  constructor
  · intro hx
    refine h.to x (spn_sub_of (fun v hv => spn_mem (List.mem_append_right _ hv)) hx)
  · intro hx
    refine spn_sub_of (fun v hv => ?_) (h.from_ x hx)
    rcases List.mem_append.mp hv with hv | hv
    · have e : v = zeroV := by
        funext i
        rcases Nat.lt_or_ge i n with hi | hi
        · exact h.low v hv i hi
        · exact h.wid v hv i hi
      rw [e]
      exact (spn_sub _).zero
    · exact spn_mem hv
theorem spn_append {vs ws : List (Vec p)} {S : Vec p → Prop} (hS : Sub S) (h1 : ∀ x, Spn vs x → S x) (h2 : ∀ x, Spn ws x → S x) (x : Vec p) (hx : Spn (vs ++ ws) x) : S x :=
  spn_le hS (fun v hv => (List.mem_append.mp hv).elim (fun h => h1 v (spn_mem h)) fun h => h2 v (spn_mem h)) hx
theorem spn_left {vs ws : List (Vec p)} {x : Vec p} (h : Spn vs x) : Spn (vs ++ ws) x := spn_sub_of (fun v hv => spn_mem (List.mem_append_left _ hv)) h
theorem spn_right {vs ws : List (Vec p)} {x : Vec p} (h : Spn ws x) : Spn (vs ++ ws) x := spn_sub_of (fun v hv => spn_mem (List.mem_append_right _ hv)) h
/-- a row more: as many rows as before just where it is made by them -/
theorem plainV_has {n : Nat} {vs : List (Vec p)} {v : Vec p} (h1 : (1 : Fin p) ≠ 0) (hinv : ∀ a : Fin p, a ≠ 0 → inv a * a = 1) (hw : ∀ x ∈ vs, ∀ i, n ≤ i → x i = 0) (hv : ∀ i, n ≤ i → v i = 0) :
    (plainV inv n (vs ++ [v])).length = (plainV inv n vs).length ↔ Spn vs v := by
  have hw' : ∀ x ∈ vs ++ [v], ∀ i, n ≤ i → x i = 0 := fun x hx => by
    rcases List.mem_append.mp hx with h | h
    · exact hw x h
    · have : x = v := by simpa using h
      rw [this]
      exact hv
  have A := plainV_pf inv hinv hw
  have B := plainV_pf inv hinv hw'
  have sa := plainV_spn inv hinv hw
  have sb := plainV_spn inv hinv hw'
  constructor
  · intro e
    have := A.same_of_len B h1 (fun x hx => (sb x).mpr (spn_left ((sa x).mp hx))) (Nat.le_of_eq e) ((sb v).mpr (spn_right (spn_mem (by simp))))
    exact (sa v).mp this
  · intro hs
    have same : ∀ x, Spn (vs ++ [v]) x ↔ Spn vs x := fun x => ⟨fun hx => spn_append (spn_sub vs) (fun _ h => h) (fun y hy => spn_sub_of (fun z hz => by
      have : z = v := by simpa using hz
      rw [this]
      exact hs) hy) x hx, spn_left⟩
    rw [B.uniq h1 A fun x => (sb x).trans ((same x).trans (sa x).symm)]
theorem plainV_len_le {n : Nat} {vs ws : List (Vec p)} (h1 : (1 : Fin p) ≠ 0) (hinv : ∀ a : Fin p, a ≠ 0 → inv a * a = 1) (hv : ∀ x ∈ vs, ∀ i, n ≤ i → x i = 0) (hw : ∀ x ∈ ws, ∀ i, n ≤ i → x i = 0) (h : ∀ x, Spn vs x → Spn ws x) : (plainV inv n vs).length ≤ (plainV inv n ws).length :=
  (plainV_pf inv hinv hv).len_le (plainV_pf inv hinv hw) h1 fun x hx => (plainV_spn inv hinv hw x).mpr (h x ((plainV_spn inv hinv hv x).mp hx))
end
end Lin
/-! rows of ints mod p as vectors; the law's own taking off -/
namespace OC
set_option linter.all false
open Lin
def ctr (p a : Int) : Int := (((List.range p.toNat).map fun (b : Nat) => (b : Int)).filter fun b => decide (a * b % p = 1)).headD 0
def lessR (p : Int) (x y : List Int) (j : Nat) : List Int := List.zipWith (fun r m => (r - x.getD j 0 * m) % p) x y
def ownR (p : Int) (a : List Int) (j : Nat) : List Int := a.map fun r => ctr p (a.getD j 0) * r % p
def stepR (p : Int) (st : List (List Int) × List (List Int)) (k : Nat) : List (List Int) × List (List Int) :=
  match st.1.filter (fun r => decide (r.getD k 0 ≠ 0)) with
  | [] => st
  | a :: _ => (st.1.map fun r => lessR p r (ownR p a k) k, (st.2.map fun r => lessR p r (ownR p a k) k) ++ [ownR p a k])
def plainR (p : Int) (n : Nat) (rows : List (List Int)) : List (List Int) := ((List.range n).foldl (stepR p) (rows, [])).2
/-- each rest but 0 has a contrary one -/
def Fld (p : Int) : Prop := 2 ≤ p ∧ ∀ a : Int, 1 ≤ a → a < p → ∃ b : Int, 1 ≤ b ∧ b < p ∧ a * b % p = 1
theorem ctr_ok {p a : Int} (h : Fld p) (h0 : 1 ≤ a) (h1 : a < p) : 0 ≤ ctr p a ∧ ctr p a < p ∧ a * ctr p a % p = 1 := by
  obtain ⟨b, b1, b2, b3⟩ := h.2 a h0 h1
  unfold ctr
  generalize hl : ((List.range p.toNat).map fun (b : Nat) => (b : Int)).filter (fun b => decide (a * b % p = 1)) = l
  have mem : ∀ x ∈ l, 0 ≤ x ∧ x < p ∧ a * x % p = 1 := by
    intro x hx
    rw [← hl] at hx
    obtain ⟨hx, hq⟩ := List.mem_filter.mp hx
    obtain ⟨i, hi, rfl⟩ := List.mem_map.mp hx
    have := List.mem_range.mp hi
    exact ⟨by omega, by omega, of_decide_eq_true hq⟩
  cases l with
  | nil =>
    have : b ∈ ((List.range p.toNat).map fun (b : Nat) => (b : Int)).filter (fun b => decide (a * b % p = 1)) := List.mem_filter.mpr ⟨List.mem_map.mpr ⟨b.toNat, List.mem_range.mpr (by omega), by omega⟩, decide_eq_true b3⟩
    rw [hl] at this
    cases this
  | cons x r => exact mem x List.mem_cons_self
theorem gd_lt {r : List Int} {i : Nat} (h : i < r.length) : r.getD i 0 = r[i] := by
  rw [List.getD_eq_getElem?_getD, List.getElem?_eq_getElem h]
  rfl
theorem gd_ge {r : List Int} {i : Nat} (h : r.length ≤ i) : r.getD i 0 = 0 := by
  rw [List.getD_eq_getElem?_getD, List.getElem?_eq_none h]
  rfl
section
variable {q : Nat} [NeZero q]
theorem q_pos : (0 : Int) < q := by
  have := Nat.pos_of_ne_zero (NeZero.ne q)
  omega
def cF (x : Int) : Fin q := ⟨(x % q).toNat, by
  have h1 := Int.emod_lt_of_pos x (q_pos (q := q))
  have h2 := Int.emod_nonneg x (show (q : Int) ≠ 0 by have := q_pos (q := q); omega)
  omega⟩
theorem cF_val (x : Int) : ((cF (q := q) x).val : Int) = x % q := by
  show (((x % q).toNat : Nat) : Int) = x % q
  exact Int.toNat_of_nonneg (Int.emod_nonneg x (by have := q_pos (q := q); omega))
theorem fin_ext_int {a b : Fin q} (h : (a.val : Int) = (b.val : Int)) : a = b := Fin.ext (by omega)
theorem cF_add (x y : Int) : cF (q := q) (x + y) = cF x + cF y := by
  apply fin_ext_int
  rw [cF_val, Fin.val_add, Int.natCast_emod, Int.natCast_add, cF_val, cF_val, ← Int.add_emod]
theorem cF_mul (x y : Int) : cF (q := q) (x * y) = cF x * cF y := by
  apply fin_ext_int
  rw [cF_val, Fin.val_mul, Int.natCast_emod, Int.natCast_mul, cF_val, cF_val, ← Int.mul_emod]
theorem cF_mod (x : Int) : cF (q := q) (x % q) = cF x := by
  apply fin_ext_int
  rw [cF_val, cF_val, Int.emod_emod]
theorem cF_zero : cF (q := q) 0 = 0 := by
  have h := cF_add (q := q) 0 0
  rw [Int.add_zero] at h
  grind
theorem cF_sub (x y : Int) : cF (q := q) (x - y) = cF x - cF y := by
  have h := cF_add (q := q) (x - y) y
  rw [Int.sub_add_cancel] at h
  grind
theorem cF_inj {x y : Int} (hx : 0 ≤ x ∧ x < q) (hy : 0 ≤ y ∧ y < q) (h : cF (q := q) x = cF y) : x = y := by
  have h1 := congrArg (fun a : Fin q => (a.val : Int)) h
  simp only [cF_val] at h1
  rw [Int.emod_eq_of_lt hx.1 hx.2, Int.emod_eq_of_lt hy.1 hy.2] at h1
  exact h1
theorem cF_ne {x : Int} (hx : 0 ≤ x ∧ x < q) : cF (q := q) x ≠ 0 ↔ x ≠ 0 := by
  constructor
  · intro h e
    rw [e] at h
    exact h cF_zero
  · intro h e
    rw [← cF_zero] at e
    exact h (cF_inj hx ⟨by omega, by omega⟩ e)
theorem cF_one (h : 2 ≤ q) : cF (q := q) 1 = 1 := by
  apply fin_ext_int
  rw [cF_val, Int.emod_eq_of_lt (by omega) (by omega)]
  have : (1 : Fin q).val = 1 % q := rfl
  rw [this, Nat.mod_eq_of_lt (by omega)]
  rfl
theorem one_ne (h : 2 ≤ q) : (1 : Fin q) ≠ 0 := by
  rw [← cF_one h]
  exact (cF_ne ⟨by omega, by omega⟩).mpr (by omega)
/-- a row as a vector -/
def toV (r : List Int) : Vec q := fun i => cF (r.getD i 0)
def RowsOk (p : Int) (n : Nat) (rows : List (List Int)) : Prop := ∀ r ∈ rows, r.length = n ∧ ∀ x ∈ r, 0 ≤ x ∧ x < p
def invF (f : Fin q) : Fin q := cF (ctr q (f.val : Int))
theorem invF_ok (h : Fld (q : Int)) : ∀ a : Fin q, a ≠ 0 → invF a * a = 1 := by
  intro a ha
  have hv : 1 ≤ (a.val : Int) := by
    have : a.val ≠ 0 := fun e => ha (Fin.ext (by rw [e]; rfl))
    omega
  obtain ⟨_, _, h3⟩ := ctr_ok h hv (by have := a.isLt; omega)
  have e : a = cF (q := q) (a.val : Int) := by
    apply fin_ext_int
    rw [cF_val, Int.emod_eq_of_lt (by omega) (by have := a.isLt; omega)]
  have h2 : (2 : Int) ≤ q := h.1
  show cF (ctr q (a.val : Int)) * a = 1
  rw [show cF (q := q) (ctr q (a.val : Int)) * a = cF (ctr q (a.val : Int)) * cF (a.val : Int) by rw [← e], ← cF_mul, ← cF_mod, Int.mul_comm, h3, cF_one (by omega)]
theorem getD_lt {r : List Int} {p : Int} (hp : 0 < p) (h : ∀ x ∈ r, 0 ≤ x ∧ x < p) (i : Nat) : 0 ≤ r.getD i 0 ∧ r.getD i 0 < p := by
  by_cases hi : i < r.length
  · rw [gd_lt hi]
    exact h _ (List.getElem_mem hi)
  · rw [gd_ge (by omega)]
    omega
theorem toV_wid {r : List Int} {n : Nat} (h : r.length = n) (i : Nat) (hi : n ≤ i) : toV (q := q) r i = 0 := by
  show cF (r.getD i 0) = 0
  rw [gd_ge (by omega), cF_zero]
theorem toV_inj {x y : List Int} (hl : x.length = y.length) (hx : ∀ v ∈ x, 0 ≤ v ∧ v < (q : Int)) (hy : ∀ v ∈ y, 0 ≤ v ∧ v < (q : Int)) (h : toV (q := q) x = toV y) : x = y := by
  apply List.ext_getElem hl
  intro i h1 h2
  have e := congrFun h i
  have e : cF (q := q) (x.getD i 0) = cF (y.getD i 0) := e
  rw [gd_lt h1, gd_lt h2] at e
  exact cF_inj (hx _ (List.getElem_mem h1)) (hy _ (List.getElem_mem h2)) e
theorem getD_zipWith (f : Int → Int → Int) {x y : List Int} (h : x.length = y.length) {i : Nat} (hi : i < x.length) : (List.zipWith f x y).getD i 0 = f (x.getD i 0) (y.getD i 0) := by
  rw [gd_lt (by rw [List.length_zipWith]; omega), List.getElem_zipWith, gd_lt hi, gd_lt (by omega)]
theorem toV_less {x y : List Int} (h : x.length = y.length) (j : Nat) : toV (q := q) (lessR q x y j) = lessV (toV x) (toV y) j := by
  funext i
  show cF ((lessR q x y j).getD i 0) = cF (x.getD i 0) - cF (x.getD j 0) * cF (y.getD i 0)
  by_cases hi : i < x.length
  · unfold lessR
    rw [getD_zipWith _ h hi, cF_mod, cF_sub, cF_mul]
  · rw [gd_ge (by unfold lessR; rw [List.length_zipWith]; omega), gd_ge (r := x) (by omega), gd_ge (r := y) (by omega), cF_zero]
    grind
theorem toV_own {a : List Int} (ha : ∀ v ∈ a, 0 ≤ v ∧ v < (q : Int)) (j : Nat) : toV (q := q) (ownR q a j) = ownV invF (toV a) j := by
  funext i
  have hj := getD_lt q_pos ha j
  have ev : ((cF (q := q) (a.getD j 0)).val : Int) = a.getD j 0 := by rw [cF_val, Int.emod_eq_of_lt hj.1 hj.2]
  show cF ((ownR q a j).getD i 0) = cF (ctr q ((cF (q := q) (a.getD j 0)).val : Int)) * cF (a.getD i 0)
  rw [ev]
  by_cases hi : i < a.length
  · unfold ownR
    rw [gd_lt (by rw [List.length_map]; exact hi), List.getElem_map, cF_mod, cF_mul, gd_lt (r := a) hi]
  · rw [gd_ge (by unfold ownR; rw [List.length_map]; omega), gd_ge (r := a) (i := i) (by omega), cF_zero]
    grind
theorem less_row {p : Int} (hp : 0 < p) {x y : List Int} {n : Nat} (hx : x.length = n) (hy : y.length = n) (j : Nat) : (lessR p x y j).length = n ∧ ∀ v ∈ lessR p x y j, 0 ≤ v ∧ v < p := by
  refine ⟨by unfold lessR; rw [List.length_zipWith]; omega, fun v hv => ?_⟩
  unfold lessR at hv
  rw [List.mem_iff_getElem?] at hv
  obtain ⟨i, hi⟩ := hv
  rw [List.getElem?_zipWith] at hi
  split at hi
  · cases Option.some.inj hi
    exact ⟨Int.emod_nonneg _ (by omega), Int.emod_lt_of_pos _ hp⟩
  · cases hi
theorem own_row {p : Int} (hp : 0 < p) {a : List Int} {n : Nat} (ha : a.length = n) (j : Nat) : (ownR p a j).length = n ∧ ∀ v ∈ ownR p a j, 0 ≤ v ∧ v < p := by
  refine ⟨by unfold ownR; rw [List.length_map]; exact ha, fun v hv => ?_⟩
  unfold ownR at hv
  obtain ⟨r, _, rfl⟩ := List.mem_map.mp hv
  exact ⟨Int.emod_nonneg _ (by omega), Int.emod_lt_of_pos _ hp⟩
theorem step_rows {p : Int} (hp : 0 < p) {n : Nat} {st : List (List Int) × List (List Int)} (h1 : RowsOk p n st.1) (h2 : RowsOk p n st.2) (k : Nat) : RowsOk p n (stepR p st k).1 ∧ RowsOk p n (stepR p st k).2 ∧ (stepR p st k).1.length = st.1.length ∧ (stepR p st k).2.length ≤ st.2.length + 1 := by
  unfold stepR
  split
  · exact ⟨h1, h2, rfl, by omega⟩
  · rename_i a r hf
    obtain ⟨ha, _⟩ := filter_head hf
    have ho := own_row hp (h1 a ha).1 k
    refine ⟨fun x hx => ?_, fun x hx => ?_, by rw [List.length_map], by rw [List.length_append, List.length_map]; simp⟩
    · obtain ⟨y, my, rfl⟩ := List.mem_map.mp hx
      exact less_row hp (h1 y my).1 ho.1 k
    · rcases List.mem_append.mp hx with hx | hx
      · obtain ⟨y, my, rfl⟩ := List.mem_map.mp hx
        exact less_row hp (h2 y my).1 ho.1 k
      · have : x = ownR p a k := by simpa using hx
        rw [this]
        exact ho
/-- the steps of both sides -/
theorem step_sim {n : Nat} {st : List (List Int) × List (List Int)} {sv : List (Vec q) × List (Nat × Vec q)} (h1 : RowsOk q n st.1) (h2 : RowsOk q n st.2) (e1 : st.1.map (toV (q := q)) = sv.1) (e2 : st.2.map (toV (q := q)) = sv.2.map (·.2)) (k : Nat) :
    (stepR q st k).1.map (toV (q := q)) = (stepV invF sv k).1 ∧ (stepR q st k).2.map (toV (q := q)) = (stepV invF sv k).2.map (·.2) := by
  have hf : sv.1.filter (fun x => decide (x k ≠ 0)) = (st.1.filter (fun r => decide (r.getD k 0 ≠ 0))).map (toV (q := q)) := by
    rw [← e1, List.filter_map]
    congr 1
    apply List.filter_congr
    intro r hr
    have := cF_ne (q := q) (getD_lt q_pos (h1 r hr).2 k)
    show decide (cF (q := q) (r.getD k 0) ≠ 0) = decide (r.getD k 0 ≠ 0)
    simp only [this]
  unfold stepR stepV
  rw [hf]
  cases hl : st.1.filter (fun r => decide (r.getD k 0 ≠ 0)) with
  | nil => exact ⟨e1, e2⟩
  | cons a r =>
    obtain ⟨ha, _⟩ := filter_head hl
    have ho := own_row (q_pos (q := q)) (h1 a ha).1 k
    have eo : toV (q := q) (ownR q a k) = ownV invF (toV a) k := toV_own (h1 a ha).2 k
    simp only [List.map_cons]
    constructor
    · rw [← e1, List.map_map, List.map_map]
      apply List.map_congr_left
      intro x hx
      show toV (lessR q x (ownR q a k) k) = lessV (toV x) (ownV invF (toV a) k) k
      rw [toV_less (by rw [(h1 x hx).1, ho.1]), eo]
    · rw [List.map_append, List.map_append, List.map_map, List.map_map, List.map_cons, List.map_cons, List.map_nil, List.map_nil, eo]
      congr 1
      have e3 : sv.2.map ((fun b : Nat × Vec q => b.2) ∘ fun b => (b.1, lessV b.2 (ownV invF (toV a) k) k)) = (sv.2.map (·.2)).map fun v => lessV v (ownV invF (toV a) k) k := by
        rw [List.map_map]
        rfl
      rw [e3, ← e2, List.map_map]
      apply List.map_congr_left
      intro x hx
      show toV (lessR q x (ownR q a k) k) = lessV (toV x) (ownV invF (toV a) k) k
      rw [toV_less (by rw [(h2 x hx).1, ho.1]), eo]
theorem steps_sim {n : Nat} {rows : List (List Int)} (h : RowsOk q n rows) : ∀ k, RowsOk q n ((List.range k).foldl (stepR q) (rows, [])).1 ∧ RowsOk q n ((List.range k).foldl (stepR q) (rows, [])).2 ∧
    ((List.range k).foldl (stepR q) (rows, [])).1.map (toV (q := q)) = ((List.range k).foldl (stepV invF) (rows.map (toV (q := q)), [])).1 ∧ ((List.range k).foldl (stepR q) (rows, [])).2.map (toV (q := q)) = ((List.range k).foldl (stepV invF) (rows.map (toV (q := q)), [])).2.map (·.2)
  | 0 => ⟨h, fun r hr => (nomatch hr), rfl, rfl⟩
  | k + 1 => by
    obtain ⟨a, b, c, d⟩ := steps_sim h k
    rw [List.range_succ, List.foldl_append, List.foldl_append]
    obtain ⟨e1, e2, _, _⟩ := step_rows q_pos a b k
    obtain ⟨f1, f2⟩ := step_sim a b c d k
    exact ⟨e1, e2, f1, f2⟩
theorem plainR_rows {n : Nat} {rows : List (List Int)} (h : RowsOk q n rows) : RowsOk q n (plainR q n rows) := (steps_sim h n).2.1
theorem plainR_eq {n : Nat} {rows : List (List Int)} (h : RowsOk q n rows) : (plainR q n rows).map (toV (q := q)) = (plainV invF n (rows.map (toV (q := q)))).map (·.2) := (steps_sim h n).2.2.2
theorem rows_wid {n : Nat} {rows : List (List Int)} (h : RowsOk q n rows) : ∀ x ∈ rows.map (toV (q := q)), ∀ i, n ≤ i → x i = 0 := by
  intro x hx i hi
  obtain ⟨r, mr, rfl⟩ := List.mem_map.mp hx
  exact toV_wid (h r mr).1 i hi
/-- what rows make -/
def Mk (q : Nat) [NeZero q] (rows : List (List Int)) (x : Vec q) : Prop := Spn (rows.map (toV (q := q))) x
/-- a plain form -/
def IsPF (q : Nat) [NeZero q] (n : Nat) (room : List (List Int)) : Prop := RowsOk q n room ∧ ∃ bs : List (Nat × Vec q), PF n bs ∧ bs.map (·.2) = room.map (toV (q := q))
theorem plainR_pf (hF : Fld (q : Int)) {n : Nat} {rows : List (List Int)} (h : RowsOk q n rows) : IsPF q n (plainR q n rows) := ⟨plainR_rows h, _, plainV_pf invF (invF_ok hF) (rows_wid h), (plainR_eq h).symm⟩
theorem plainR_mk (hF : Fld (q : Int)) {n : Nat} {rows : List (List Int)} (h : RowsOk q n rows) (x : Vec q) : Mk q (plainR q n rows) x ↔ Mk q rows x := by
  unfold Mk
  rw [plainR_eq h]
  exact plainV_spn invF (invF_ok hF) (rows_wid h) x
theorem map_inj {n : Nat} : ∀ {xs ys : List (List Int)}, RowsOk q n xs → RowsOk q n ys → xs.map (toV (q := q)) = ys.map (toV (q := q)) → xs = ys
  | [], [], _, _, _ => rfl
  | [], _ :: _, _, _, e => by cases e
  | _ :: _, [], _, _, e => by cases e
  | x :: xs, y :: ys, hx, hy, e => by
    rw [List.map_cons, List.map_cons] at e
    have h1 := hx x List.mem_cons_self
    have h2 := hy y List.mem_cons_self
    have e1 : x = y := toV_inj (by rw [h1.1, h2.1]) h1.2 h2.2 (List.cons.inj e).1
    rw [e1, map_inj (fun r hr => hx r (List.mem_cons_of_mem _ hr)) (fun r hr => hy r (List.mem_cons_of_mem _ hr)) (List.cons.inj e).2]
/-- each room has just one plain form -/
theorem IsPF.uniq (hF : Fld (q : Int)) {n : Nat} {one other : List (List Int)} (h1 : IsPF q n one) (h2 : IsPF q n other) (h : ∀ x, Mk q one x ↔ Mk q other x) : one = other := by
  obtain ⟨r1, bs, b1, e1⟩ := h1
  obtain ⟨r2, cs, c1, e2⟩ := h2
  have h2' : (2 : Int) ≤ q := hF.1
  have e := b1.uniq (one_ne (by omega)) c1 fun x => by
    rw [e1, e2]
    exact h x
  exact map_inj r1 r2 (by rw [← e1, ← e2, e])
theorem IsPF.plain (hF : Fld (q : Int)) {n : Nat} {room rows : List (List Int)} (h1 : IsPF q n room) (h : RowsOk q n rows) (hm : ∀ x, Mk q room x ↔ Mk q rows x) : room = plainR q n rows :=
  h1.uniq hF (plainR_pf hF h) fun x => (hm x).trans (plainR_mk hF h x).symm
theorem plainR_len {n : Nat} {rows : List (List Int)} (h : RowsOk q n rows) : (plainR q n rows).length = (plainV invF n (rows.map (toV (q := q)))).length := by
  have := congrArg List.length (plainR_eq h)
  rw [List.length_map, List.length_map] at this
  exact this
theorem plainR_has (hF : Fld (q : Int)) {n : Nat} {rows : List (List Int)} {r : List Int} (h : RowsOk q n rows) (hr : RowsOk q n [r]) : (plainR q n (rows ++ [r])).length = (plainR q n rows).length ↔ Mk q rows (toV r) := by
  have h2 : (2 : Int) ≤ q := hF.1
  have hr' := hr r List.mem_cons_self
  have hall : RowsOk q n (rows ++ [r]) := fun x hx => by
    rcases List.mem_append.mp hx with h' | h'
    · exact h x h'
    · exact hr x h'
  rw [plainR_len h, plainR_len hall, List.map_append, List.map_cons, List.map_nil]
  exact plainV_has invF (one_ne (by omega)) (invF_ok hF) (rows_wid h) fun i hi => toV_wid hr'.1 i hi
end
end OC
/-! a row more: one first place more, or none; worlds that part -/
namespace Lin
set_option linter.all false
section
variable {p : Nat} [NeZero p]
theorem exists_lead {x : Vec p} : ∀ (j : Nat), x j ≠ 0 → ∃ k, k ≤ j ∧ Lead x k := by
  intro j
  induction j using Nat.strongRecOn with
  | _ j ih =>
    intro h
    by_cases hz : ∀ i, i < j → x i = 0
    · exact ⟨j, Nat.le_refl j, h, hz⟩
    · obtain ⟨i, hi⟩ := Classical.not_forall.mp hz
      have hi' : i < j ∧ x i ≠ 0 := Classical.not_imp.mp hi
      obtain ⟨k, hk, l⟩ := ih i hi'.1 hi'.2
      exact ⟨k, by omega, l⟩
/-- x less what the rows tell of it -/
def leftV (bs : List (Nat × Vec p)) (x : Vec p) : Vec p := fun i => x i - red bs x i
theorem left_at {n : Nat} {bs : List (Nat × Vec p)} (h : PF n bs) (x : Vec p) {c : Nat × Vec p} (hc : c ∈ bs) : leftV bs x c.1 = 0 := by
  show x c.1 - red bs x c.1 = 0
  rw [h.at x hc]
  grind
theorem left_zero {n : Nat} {bs : List (Nat × Vec p)} (h : PF n bs) (x : Vec p) : leftV bs x = zeroV ↔ Spn (bs.map (·.2)) x := by
  constructor
  · intro e
    have : x = red bs x := by
      funext i
      have h0 := congrFun e i
      have h0 : x i - red bs x i = 0 := h0
      grind
    rw [this]
    exact spn_red bs x
  · intro hx
    funext i
    show x i - red bs x i = 0
    rw [h.told hx]
    grind
/-- sums of a row of the room and of so many of v -/
theorem spn_more {vs : List (Vec p)} {v x : Vec p} (hx : Spn (vs ++ [v]) x) : ∃ s c, Spn vs s ∧ x = addV s (mulV c v) := by
  have hS : Sub (fun x : Vec p => ∃ s c, Spn vs s ∧ x = addV s (mulV c v)) := by
    refine ⟨⟨zeroV, 0, (spn_sub vs).zero, ?_⟩, ?_, ?_⟩
    · funext i
      show (0 : Fin p) = 0 + 0 * v i
      grind
    · rintro x y ⟨s, c, hs, rfl⟩ ⟨t, d, ht, rfl⟩
      refine ⟨addV s t, c + d, (spn_sub vs).add hs ht, ?_⟩
      funext i
      show s i + c * v i + (t i + d * v i) = s i + t i + (c + d) * v i
      grind
    · rintro d x ⟨s, c, hs, rfl⟩
      refine ⟨mulV d s, d * c, (spn_sub vs).mul d hs, ?_⟩
      funext i
      show d * (s i + c * v i) = d * s i + d * c * v i
      grind
  refine spn_le hS (fun w hw => ?_) hx
  rcases List.mem_append.mp hw with h | h
  · refine ⟨w, 0, spn_mem h, ?_⟩
    funext i
    show w i = w i + 0 * v i
    grind
  · have : w = v := by simpa using h
    subst this
    refine ⟨zeroV, 1, (spn_sub vs).zero, ?_⟩
    funext i
    show w i = 0 + 1 * w i
    grind
/-- the first places of a row of the greater room -/
theorem lead_more {n : Nat} {bs : List (Nat × Vec p)} (h : PF n bs) {v : Vec p} {j k : Nat} {x : Vec p} (hj : Lead (leftV bs v) j) (hfld : ∀ a b : Fin p, a * b = 0 → a = 0 ∨ b = 0) (hx : Spn (bs.map (·.2) ++ [v]) x) (hk : Lead x k) : (∃ b ∈ bs, b.1 = k) ∨ k = j := by
  obtain ⟨s, c, hs, rfl⟩ := spn_more hx
  -- with the left of v in its place
  have e : addV s (mulV c v) = addV (addV s (mulV c (red bs v))) (mulV c (leftV bs v)) := by
    funext i
    show s i + c * v i = s i + c * red bs v i + c * (v i - red bs v i)
    grind
  have hs' : Spn (bs.map (·.2)) (addV s (mulV c (red bs v))) := (spn_sub _).add hs ((spn_sub _).mul c (spn_red bs v))
  rw [e] at hk
  generalize addV s (mulV c (red bs v)) = t at hs' hk
  by_cases hc : c = 0
  · subst hc
    have e2 : addV t (mulV 0 (leftV bs v)) = t := by
      funext i
      show t i + 0 * leftV bs v i = t i
      grind
    rw [e2] at hk
    exact .inl (h.lead hs' hk)
  · have val : ∀ i, addV t (mulV c (leftV bs v)) i = t i + c * leftV bs v i := fun _ => rfl
    rcases Nat.lt_trichotomy k j with hlt | heq | hgt
    · have lt : Lead t k := by
        refine ⟨?_, fun i hi => ?_⟩
        · have h1 := hk.1
          rw [val, hj.2 k hlt] at h1
          intro z
          apply h1
          rw [z]
          grind
        · have h1 := hk.2 i hi
          rw [val, hj.2 i (by omega)] at h1
          grind
      exact .inl (h.lead hs' lt)
    · exact .inr heq
    · have lt : Lead t j := by
        refine ⟨fun z => ?_, fun i hi => ?_⟩
        · have h1 := hk.2 j hgt
          rw [val, z] at h1
          have h2 : c * leftV bs v j = 0 := by grind
          rcases hfld _ _ h2 with h3 | h3
          · exact hc h3
          · exact hj.1 h3
        · have h1 := hk.2 i (by omega)
          rw [val, hj.2 i hi] at h1
          grind
      obtain ⟨b, mb, eb⟩ := h.lead hs' lt
      have := left_at h v mb
      rw [eb] at this
      exact absurd this hj.1
theorem sorted_more {l m : List Nat} {j : Nat} (hl : l.Pairwise (· < ·)) (hm : m.Pairwise (· < ·)) (h : ∀ x ∈ l, x ∈ m ∨ x = j) : l.length ≤ m.length + 1 := by
  have nd : l.Nodup := hl.imp fun h => Nat.ne_of_lt h
  have s := List.erase_sublist (a := j) (l := l)
  have h1 := (sorted_len (hl.sublist s) hm fun x hx => by
    rcases h x (List.mem_of_mem_erase hx) with h | h
    · exact h
    · subst h
      exact absurd hx (List.Nodup.not_mem_erase nd)).1
  have h2 := List.length_erase (a := j) (l := l)
  split at h2 <;> omega
variable (inv : Fin p → Fin p)
/-- a row more that is not made: one row more -/
theorem plainV_more {n : Nat} {vs : List (Vec p)} {v : Vec p} (h1 : (1 : Fin p) ≠ 0) (hinv : ∀ a : Fin p, a ≠ 0 → inv a * a = 1) (hw : ∀ x ∈ vs, ∀ i, n ≤ i → x i = 0) (hv : ∀ i, n ≤ i → v i = 0) (hn : ¬ Spn vs v) :
    (plainV inv n (vs ++ [v])).length = (plainV inv n vs).length + 1 := by
  have hfld : ∀ a b : Fin p, a * b = 0 → a = 0 ∨ b = 0 := fun a b e => by
    by_cases ha : a = 0
    · exact .inl ha
    · have := hinv a ha
      refine .inr ?_
      have : b = inv a * (a * b) := by grind
      rw [e] at this
      grind
  have hw' : ∀ x ∈ vs ++ [v], ∀ i, n ≤ i → x i = 0 := fun x hx => by
    rcases List.mem_append.mp hx with h | h
    · exact hw x h
    · have : x = v := by simpa using h
      rw [this]
      exact hv
  have A := plainV_pf inv hinv hw
  have B := plainV_pf inv hinv hw'
  have sa := plainV_spn inv hinv hw
  have sb := plainV_spn inv hinv hw'
  have ne : leftV (plainV inv n vs) v ≠ zeroV := fun e => hn ((sa v).mp ((left_zero A v).mp e))
  obtain ⟨j0, hj0⟩ : ∃ j, leftV (plainV inv n vs) v j ≠ 0 := by
    apply Classical.byContradiction
    intro hz
    apply ne
    funext i
    exact Classical.byContradiction fun q => hz ⟨i, q⟩
  obtain ⟨j, _, hj⟩ := exists_lead j0 hj0
  have up : (plainV inv n (vs ++ [v])).length ≤ (plainV inv n vs).length + 1 := by
    have := sorted_more (j := j) (List.pairwise_map.mpr B.inc) (List.pairwise_map.mpr A.inc) fun x hx => by
      obtain ⟨b, mb, rfl⟩ := List.mem_map.mp hx
      have hb : Spn ((plainV inv n vs).map (·.2) ++ [v]) b.2 := by
        refine spn_append (spn_sub _) (fun y hy => spn_left ((sa y).mpr hy)) (fun y hy => spn_right hy) b.2 ((sb b.2).mp (spn_mem (List.mem_map_of_mem mb)))
      rcases lead_more A hj hfld hb (B.leads h1 mb) with ⟨c, mc, e⟩ | e
      · exact .inl (List.mem_map.mpr ⟨c, mc, e⟩)
      · exact .inr e
    rw [List.length_map, List.length_map] at this
    exact this
  have low : (plainV inv n vs).length ≤ (plainV inv n (vs ++ [v])).length := plainV_len_le inv h1 hinv hw hw' fun x hx => spn_left hx
  have neq : (plainV inv n (vs ++ [v])).length ≠ (plainV inv n vs).length := fun e => hn ((plainV_has inv h1 hinv hw hv).mp e)
  omega
/-! ### worth: the sum over the places -/
def dot : Nat → Vec p → Vec p → Fin p
  | 0, _, _ => 0
  | n + 1, x, y => dot n x y + x n * y n
theorem dot_add (n : Nat) (x y w : Vec p) : dot n (addV x y) w = dot n x w + dot n y w := by
  induction n with
  | zero => simp only [dot]; grind
  | succ n ih =>
    simp only [dot]
    rw [ih]
    show dot n x w + dot n y w + (x n + y n) * w n = dot n x w + x n * w n + (dot n y w + y n * w n)
    grind
theorem dot_mul (n : Nat) (c : Fin p) (x w : Vec p) : dot n (mulV c x) w = c * dot n x w := by
  induction n with
  | zero => simp only [dot]; grind
  | succ n ih =>
    simp only [dot]
    rw [ih]
    show c * dot n x w + c * x n * w n = c * (dot n x w + x n * w n)
    grind
theorem dot_comm (n : Nat) (x y : Vec p) : dot n x y = dot n y x := by
  induction n with
  | zero => rfl
  | succ n ih =>
    simp only [dot]
    rw [ih]
    grind
theorem dot_zero (n : Nat) (w : Vec p) : dot n zeroV w = 0 := by
  induction n with
  | zero => rfl
  | succ n ih =>
    simp only [dot]
    rw [ih]
    show (0 : Fin p) + 0 * w n = 0
    grind
end
end Lin
/-! worlds that part; sizes of sums and of what two rooms share -/
namespace Lin
set_option linter.all false
section
variable {p : Nat} [NeZero p]
def unitV (j : Nat) : Vec p := fun i => if i = j then 1 else 0
theorem dot_unit (n : Nat) (x : Vec p) (j : Nat) : dot n x (unitV j) = if j < n then x j else 0 := by
  induction n with
  | zero => simp [dot]
  | succ n ih =>
    simp only [dot]
    rw [ih]
    unfold unitV
    by_cases h1 : n = j
    · subst h1
      rw [if_neg (Nat.lt_irrefl n), if_pos (Nat.lt_succ_self n)]
      simp only [if_true]
      grind
    · rw [if_neg h1]
      by_cases h2 : j < n
      · rw [if_pos h2, if_pos (by omega)]
        grind
      · rw [if_neg h2, if_neg (by omega)]
        grind
/-- the world at which a row is worth what is left of it at the place j -/
def crossV : List (Nat × Vec p) → Nat → Vec p
  | [], j => unitV j
  | b :: bs, j => addV (mulV (-(b.2 j)) (unitV b.1)) (crossV bs j)
theorem dot_cross (n : Nat) : ∀ (bs : List (Nat × Vec p)) (x : Vec p) (j : Nat), (∀ b ∈ bs, b.1 < n) → j < n → dot n x (crossV bs j) = leftV bs x j
  | [], x, j, _, hj => by
    simp only [crossV]
    rw [dot_unit, if_pos hj]
    show x j = x j - 0
    grind
  | b :: bs, x, j, hb, hj => by
    have ih := dot_cross n bs x j (fun c hc => hb c (List.mem_cons_of_mem _ hc)) hj
    simp only [crossV]
    rw [dot_comm, dot_add, dot_mul, dot_comm n (unitV b.1) x, dot_comm n (crossV bs j) x, ih, dot_unit, if_pos (hb b List.mem_cons_self)]
    show -(b.2 j) * x b.1 + (x j - red bs x j) = x j - (x b.1 * b.2 j + red bs x j)
    grind
theorem cross_wid : ∀ (bs : List (Nat × Vec p)) (n j : Nat), (∀ b ∈ bs, b.1 < n) → j < n → ∀ i, n ≤ i → crossV bs j i = 0
  | [], n, j, _, hj, i, hi => by
    show (if i = j then (1 : Fin p) else 0) = 0
    rw [if_neg (by omega)]
  | b :: bs, n, j, hb, hj, i, hi => by
    have ih := cross_wid bs n j (fun c hc => hb c (List.mem_cons_of_mem _ hc)) hj i hi
    have := hb b List.mem_cons_self
    show -(b.2 j) * (if i = b.1 then (1 : Fin p) else 0) + crossV bs j i = 0
    rw [if_neg (by omega), ih]
    grind
/-! ### sizes -/
variable (inv : Fin p → Fin p)
/-- what a list of rows needs: the size of their room -/
def dim (n : Nat) (vs : List (Vec p)) : Nat := (plainV inv n vs).length
structure Good (n : Nat) : Prop where
  one : (1 : Fin p) ≠ 0
  inv : ∀ a : Fin p, a ≠ 0 → inv a * a = 1
def Wid (n : Nat) (vs : List (Vec p)) : Prop := ∀ x ∈ vs, ∀ i, n ≤ i → x i = 0
theorem Wid.app {n : Nat} {vs ws : List (Vec p)} (h1 : Wid n vs) (h2 : Wid n ws) : Wid n (vs ++ ws) := fun x hx => (List.mem_append.mp hx).elim (h1 x) (h2 x)
theorem Wid.one {n : Nat} {v : Vec p} (h : ∀ i, n ≤ i → v i = 0) : Wid n [v] := fun x hx => by
  have : x = v := by simpa using hx
  rw [this]
  exact h
variable {inv}
theorem Good.same {n : Nat} (g : Good inv n) {vs ws : List (Vec p)} (hv : Wid n vs) (hw : Wid n ws) (h : ∀ x, Spn vs x ↔ Spn ws x) : dim inv n vs = dim inv n ws :=
  Nat.le_antisymm (plainV_len_le inv g.one g.inv hv hw fun x hx => (h x).mp hx) (plainV_len_le inv g.one g.inv hw hv fun x hx => (h x).mpr hx)
theorem Good.le {n : Nat} (g : Good inv n) {vs ws : List (Vec p)} (hv : Wid n vs) (hw : Wid n ws) (h : ∀ x, Spn vs x → Spn ws x) : dim inv n vs ≤ dim inv n ws := plainV_len_le inv g.one g.inv hv hw h
theorem Good.in_ {n : Nat} (g : Good inv n) {vs : List (Vec p)} {v : Vec p} (hv : Wid n vs) (hw : ∀ i, n ≤ i → v i = 0) (h : Spn vs v) : dim inv n (vs ++ [v]) = dim inv n vs := (plainV_has inv g.one g.inv hv hw).mpr h
theorem Good.out {n : Nat} (g : Good inv n) {vs : List (Vec p)} {v : Vec p} (hv : Wid n vs) (hw : ∀ i, n ≤ i → v i = 0) (h : ¬ Spn vs v) : dim inv n (vs ++ [v]) = dim inv n vs + 1 := plainV_more inv g.one g.inv hv hw h
theorem dim_nil (n : Nat) : dim inv n ([] : List (Vec p)) = 0 := by
  have h : ∀ k, (List.range k).foldl (stepV inv) (([] : List (Vec p)), []) = ([], []) := by
    intro k
    induction k with
    | zero => rfl
    | succ k ih =>
      rw [List.range_succ, List.foldl_append, ih]
      rfl
  unfold dim plainV
  rw [h n]
  rfl
theorem spn_app {vs ws : List (Vec p)} {x : Vec p} : Spn (vs ++ ws) x ↔ ∃ s t, Spn vs s ∧ Spn ws t ∧ x = addV s t := by
  constructor
  · intro hx
    have hS : Sub (fun x : Vec p => ∃ s t, Spn vs s ∧ Spn ws t ∧ x = addV s t) := by
      refine ⟨⟨zeroV, zeroV, (spn_sub vs).zero, (spn_sub ws).zero, (zero_add _).symm⟩, ?_, ?_⟩
      · rintro x y ⟨s, t, hs, ht, rfl⟩ ⟨s', t', hs', ht', rfl⟩
        refine ⟨addV s s', addV t t', (spn_sub vs).add hs hs', (spn_sub ws).add ht ht', ?_⟩
        funext i
        show s i + t i + (s' i + t' i) = s i + s' i + (t i + t' i)
        grind
      · rintro c x ⟨s, t, hs, ht, rfl⟩
        refine ⟨mulV c s, mulV c t, (spn_sub vs).mul c hs, (spn_sub ws).mul c ht, ?_⟩
        funext i
        show c * (s i + t i) = c * s i + c * t i
        grind
    refine spn_le hS (fun w hw => ?_) hx
    rcases List.mem_append.mp hw with h | h
    · refine ⟨w, zeroV, spn_mem h, (spn_sub ws).zero, ?_⟩
      funext i
      show w i = w i + 0
      grind
    · exact ⟨zeroV, w, (spn_sub vs).zero, spn_mem h, (zero_add w).symm⟩
  · rintro ⟨s, t, hs, ht, rfl⟩
    exact (spn_sub _).add (spn_left hs) (spn_right ht)
/-- what two rooms share: rows that make it, and the sizes -/
theorem Good.meet {n : Nat} (g : Good inv n) {us : List (Vec p)} (hu : Wid n us) : ∀ (m : Nat) (ws : List (Vec p)), ws.length = m → Wid n ws → ∃ ks, Wid n ks ∧ (∀ x, Spn ks x ↔ Spn us x ∧ Spn ws x) ∧ dim inv n (us ++ ws) + dim inv n ks = dim inv n us + dim inv n ws
  | 0, ws, hl, hw => by
    have e : ws = [] := List.eq_nil_of_length_eq_zero hl
    subst e
    refine ⟨[], fun x hx => (nomatch hx), fun x => ⟨fun hx => ⟨?_, hx⟩, fun hx => hx.2⟩, ?_⟩
    · obtain ⟨fs, e⟩ := hx
      rw [e, lin_nil']
      exact (spn_sub us).zero
    · rw [List.append_nil, dim_nil]
  | m + 1, ws, hl, hw => by
    obtain ⟨ws', w, rfl⟩ : ∃ ws' w, ws = ws' ++ [w] := by
      rcases List.eq_nil_or_concat ws with e | ⟨l, b, e⟩
      · rw [e] at hl
        cases hl
      · exact ⟨l, b, by rw [e, List.concat_eq_append]⟩
    have hw' : Wid n ws' := fun x hx => hw x (List.mem_append_left _ hx)
    have hww : ∀ i, n ≤ i → w i = 0 := hw w (by simp)
    obtain ⟨ks, hk, sk, dk⟩ := meet g hu m ws' (by simpa using hl) hw'
    rw [← List.append_assoc]
    by_cases h1 : Spn ws' w
    · have same : ∀ x, Spn (ws' ++ [w]) x ↔ Spn ws' x := fun x => ⟨fun hx => spn_append (spn_sub ws') (fun _ h => h) (fun y hy => spn_sub_of (fun z hz => by
        have : z = w := by simpa using hz
        rw [this]
        exact h1) hy) x hx, spn_left⟩
      refine ⟨ks, hk, fun x => (sk x).trans ⟨fun h => ⟨h.1, (same x).mpr h.2⟩, fun h => ⟨h.1, (same x).mp h.2⟩⟩, ?_⟩
      rw [g.in_ (hu.app hw') hww (spn_right h1), g.in_ hw' hww h1]
      exact dk
    · rw [g.out hw' hww h1]
      by_cases h2 : Spn (us ++ ws') w
      · rw [g.in_ (hu.app hw') hww h2]
        obtain ⟨u, v, su, sv, ew⟩ := spn_app.mp h2
        -- u = w - v is shared
        have eu : u = fun i => w i - 1 * v i := by
          funext i
          have := congrFun ew i
          have this : w i = u i + v i := this
          grind
        have uw : Spn (ws' ++ [w]) u := by
          rw [eu]
          exact (spn_sub _).less 1 (spn_right (spn_mem (by simp))) (spn_left sv)
        have nu : ¬ Spn ws' u := fun hu' => h1 (by rw [ew]; exact (spn_sub _).add hu' sv)
        have wu : ∀ i, n ≤ i → u i = 0 := fun i hi => by
          have h := hu
          have hz : Sub (fun x : Vec p => x i = 0) := ⟨rfl, fun {x y} hx hy => by show x i + y i = 0; rw [hx, hy]; grind, fun c {x} hx => by show c * x i = 0; rw [hx]; grind⟩
          exact spn_le hz (fun x hx => h x hx i hi) su
        refine ⟨ks ++ [u], hk.app (Wid.one wu), fun x => ⟨fun hx => ?_, fun hx => ?_⟩, ?_⟩
        · have s1 : Sub (fun x : Vec p => Spn us x ∧ Spn (ws' ++ [w]) x) := ⟨⟨(spn_sub _).zero, (spn_sub _).zero⟩, fun {x y} hx hy => ⟨(spn_sub _).add hx.1 hy.1, (spn_sub _).add hx.2 hy.2⟩, fun c {x} hx => ⟨(spn_sub _).mul c hx.1, (spn_sub _).mul c hx.2⟩⟩
          refine spn_le s1 (fun y hy => ?_) hx
          rcases List.mem_append.mp hy with hy | hy
          · have := (sk y).mp (spn_mem hy)
            exact ⟨this.1, spn_left this.2⟩
          · have : y = u := by simpa using hy
            rw [this]
            exact ⟨su, uw⟩
        · obtain ⟨s, c, hs, ex⟩ := spn_more hx.2
          -- x - c u is in both
          have hy : Spn us (fun i => x i - c * u i) := (spn_sub _).less c hx.1 su
          have hy2 : Spn ws' (fun i => x i - c * u i) := by
            have e : (fun i => x i - c * u i) = addV s (mulV c v) := by
              funext i
              have e1 := congrFun ex i
              have e2 := congrFun ew i
              have e1 : x i = s i + c * w i := e1
              have e2 : w i = u i + v i := e2
              show x i - c * u i = s i + c * v i
              grind
            rw [e]
            exact (spn_sub _).add hs ((spn_sub _).mul c sv)
          have hk2 := (sk _).mpr ⟨hy, hy2⟩
          have e : x = addV (fun i => x i - c * u i) (mulV c u) := by
            funext i
            show x i = x i - c * u i + c * u i
            grind
          rw [e]
          exact (spn_sub _).add (spn_left hk2) ((spn_sub _).mul c (spn_right (spn_mem (by simp))))
        · have nk : ¬ Spn ks u := fun h => nu ((sk u).mp h).2
          rw [g.out hk wu nk]
          omega
      · rw [g.out (hu.app hw') hww h2]
        refine ⟨ks, hk, fun x => (sk x).trans ⟨fun h => ⟨h.1, spn_left h.2⟩, fun h => ⟨h.1, ?_⟩⟩, by omega⟩
        obtain ⟨s, c, hs, ex⟩ := spn_more h.2
        by_cases hc : c = 0
        · subst hc
          have e : x = s := by
            rw [ex]
            funext i
            show s i + 0 * w i = s i
            grind
          rw [e]
          exact hs
        · -- w would be made of both
          exfalso
          apply h2
          have hi := g.inv c hc
          have e : w = fun i => mulV (inv c) x i - inv c * s i := by
            funext i
            have e1 := congrFun ex i
            have e1 : x i = s i + c * w i := e1
            show w i = inv c * x i - inv c * s i
            grind
          rw [e]
          exact (spn_sub _).less (inv c) ((spn_sub _).mul (inv c) (spn_left h.1)) (spn_right hs)
end
end Lin
/-! across: the worlds at which all rows of a room are worth 0 -/
namespace Lin
set_option linter.all false
section
variable {p : Nat} [NeZero p] {inv : Fin p → Fin p}
theorem dot_single {n : Nat} {x y : Vec p} {k : Nat} (hk : k < n) (h : ∀ i, i < n → i ≠ k → x i * y i = 0) : dot n x y = x k * y k := by
  have go : ∀ m, m ≤ n → dot m x y = if k < m then x k * y k else 0 := by
    intro m
    induction m with
    | zero => intro _; simp [dot]
    | succ m ih =>
      intro hm
      simp only [dot]
      rw [ih (by omega)]
      by_cases e : m = k
      · subst e
        rw [if_neg (Nat.lt_irrefl m), if_pos (Nat.lt_succ_self m)]
        grind
      · rw [h m (by omega) e]
        by_cases h2 : k < m
        · rw [if_pos h2, if_pos (by omega)]
          grind
        · rw [if_neg h2, if_neg (by omega)]
          grind
  rw [go n (Nat.le_refl n), if_pos hk]
theorem cross_free : ∀ (l : List (Nat × Vec p)) (j i : Nat), (∀ b ∈ l, b.1 ≠ i) → crossV l j i = if i = j then 1 else 0
  | [], j, i, _ => rfl
  | b :: l, j, i, h => by
    have ih := cross_free l j i fun c hc => h c (List.mem_cons_of_mem _ hc)
    show -(b.2 j) * (if i = b.1 then (1 : Fin p) else 0) + crossV l j i = _
    rw [if_neg (Ne.symm (h b List.mem_cons_self)), ih]
    grind
/-- whether a place is a first place of a row -/
def isFirst (bs : List (Nat × Vec p)) (j : Nat) : Bool := decide (j ∈ bs.map (·.1))
/-- the places that are first places of no row -/
def frees (n : Nat) (bs : List (Nat × Vec p)) : List Nat := (List.range n).filter fun j => !isFirst bs j
theorem mem_frees {n : Nat} {bs : List (Nat × Vec p)} {j : Nat} : j ∈ frees n bs ↔ j < n ∧ ∀ b ∈ bs, b.1 ≠ j := by
  unfold frees isFirst
  rw [List.mem_filter, List.mem_range]
  constructor
  · rintro ⟨h1, h2⟩
    refine ⟨h1, fun b hb e => ?_⟩
    rw [decide_eq_true (List.mem_map.mpr ⟨b, hb, e⟩)] at h2
    cases h2
  · rintro ⟨h1, h2⟩
    refine ⟨h1, ?_⟩
    rw [decide_eq_false fun hm => ?_]
    · rfl
    · obtain ⟨b, mb, e⟩ := List.mem_map.mp hm
      exact h2 b mb e
theorem filter_split (q : Nat → Bool) : ∀ l : List Nat, l.length = (l.filter q).length + (l.filter fun x => !q x).length
  | [] => rfl
  | a :: l => by
    have ih := filter_split q l
    by_cases hq : q a = true
    · rw [List.filter_cons_of_pos hq, List.filter_cons_of_neg (by rw [hq]; decide), List.length_cons, List.length_cons]
      omega
    · have hq' : q a = false := by simpa using hq
      rw [List.filter_cons_of_neg hq, List.filter_cons_of_pos (by rw [hq']; rfl), List.length_cons, List.length_cons]
      omega
theorem frees_len {n : Nat} {bs : List (Nat × Vec p)} (h : PF n bs) : (frees n bs).length + bs.length = n := by
  have e : (List.range n).filter (isFirst bs) = bs.map (·.1) := by
    refine sorted_eq (List.Pairwise.filter _ List.pairwise_lt_range) (List.pairwise_map.mpr h.inc) fun x => ?_
    rw [List.mem_filter, List.mem_range]
    constructor
    · rintro ⟨_, h2⟩
      exact of_decide_eq_true h2
    · intro hx
      obtain ⟨b, mb, e⟩ := List.mem_map.mp hx
      exact ⟨by rw [← e]; exact h.lt b mb, decide_eq_true hx⟩
  have h1 := filter_split (isFirst bs) (List.range n)
  rw [e, List.length_range, List.length_map] at h1
  unfold frees
  omega
/-- so many of each of the worlds by the free places -/
def tellV (bs : List (Nat × Vec p)) (w : Vec p) : List Nat → Vec p
  | [] => zeroV
  | j :: js => addV (mulV (w j) (crossV bs j)) (tellV bs w js)
theorem tell_spn (bs : List (Nat × Vec p)) (w : Vec p) : ∀ js : List Nat, Spn (js.map (crossV bs)) (tellV bs w js)
  | [] => (spn_sub _).zero
  | j :: js => (spn_sub _).add ((spn_sub _).mul _ (spn_mem (by simp))) (spn_tail (tell_spn bs w js))
theorem tell_free (bs : List (Nat × Vec p)) (w : Vec p) {i : Nat} (hi : ∀ b ∈ bs, b.1 ≠ i) : ∀ js : List Nat, js.Nodup → tellV bs w js i = if i ∈ js then w i else 0
  | [], _ => rfl
  | j :: js, nd => by
    have nd' := List.nodup_cons.mp nd
    have ih := tell_free bs w hi js nd'.2
    show w j * crossV bs j i + tellV bs w js i = _
    rw [ih, cross_free bs j i hi]
    by_cases e : i = j
    · subst e
      rw [if_pos rfl, if_neg nd'.1, if_pos List.mem_cons_self]
      grind
    · rw [if_neg e]
      by_cases hm : i ∈ js
      · rw [if_pos hm, if_pos (List.mem_cons_of_mem _ hm)]
        grind
      · rw [if_neg hm, if_neg (by simp [e, hm])]
        grind
/-- worlds at which all rows of a room are worth 0 -/
def Perp (n : Nat) (S : Vec p → Prop) (w : Vec p) : Prop := (∀ i, n ≤ i → w i = 0) ∧ ∀ x, S x → dot n x w = 0
theorem perp_sub (n : Nat) (S : Vec p → Prop) : Sub (Perp n S) := by
  refine ⟨⟨fun _ _ => rfl, fun x _ => by rw [dot_comm, dot_zero]⟩, fun {x y} hx hy => ⟨fun i hi => ?_, fun z hz => ?_⟩, fun c {x} hx => ⟨fun i hi => ?_, fun z hz => ?_⟩⟩
  · show x i + y i = 0
    rw [hx.1 i hi, hy.1 i hi]
    grind
  · rw [dot_comm, dot_add, dot_comm n x z, dot_comm n y z, hx.2 z hz, hy.2 z hz]
    grind
  · show c * x i = 0
    rw [hx.1 i hi]
    grind
  · rw [dot_comm, dot_mul, dot_comm n x z, hx.2 z hz]
    grind
theorem PF.cross_perp {n : Nat} {bs : List (Nat × Vec p)} (h : PF n bs) {j : Nat} (hj : j < n) : Perp n (Spn (bs.map (·.2))) (crossV bs j) :=
  ⟨cross_wid bs n j h.lt hj, fun x hx => by rw [dot_cross n bs x j h.lt hj, (left_zero h x).mpr hx]; rfl⟩
theorem frees_nodup (n : Nat) (bs : List (Nat × Vec p)) : (frees n bs).Nodup := (List.nodup_range).filter _
/-- the worlds by the free places make them all -/
theorem PF.perp_spn {n : Nat} {bs : List (Nat × Vec p)} (h : PF n bs) (w : Vec p) : Spn ((frees n bs).map (crossV bs)) w ↔ Perp n (Spn (bs.map (·.2))) w := by
  constructor
  · intro hw
    refine spn_le (perp_sub n _) (fun v hv => ?_) hw
    obtain ⟨j, mj, rfl⟩ := List.mem_map.mp hv
    exact h.cross_perp (mem_frees.mp mj).1
  · intro hw
    have ht : Perp n (Spn (bs.map (·.2))) (tellV bs w (frees n bs)) := spn_le (perp_sub n _) (fun v hv => by
      obtain ⟨j, mj, rfl⟩ := List.mem_map.mp hv
      exact h.cross_perp (mem_frees.mp mj).1) (tell_spn bs w (frees n bs))
    have hd : Perp n (Spn (bs.map (·.2))) (fun i => w i - 1 * tellV bs w (frees n bs) i) := (perp_sub n _).less 1 hw ht
    have z1 : ∀ i, i < n → (∀ b ∈ bs, b.1 ≠ i) → w i - 1 * tellV bs w (frees n bs) i = 0 := fun i hi hb => by
      rw [tell_free bs w hb _ (frees_nodup n bs), if_pos (mem_frees.mpr ⟨hi, hb⟩)]
      grind
    have z2 : ∀ c ∈ bs, w c.1 - 1 * tellV bs w (frees n bs) c.1 = 0 := fun c hc => by
      have h0 := hd.2 c.2 (spn_mem (List.mem_map_of_mem hc))
      rw [dot_single (h.lt c hc) fun i hi ne => ?_] at h0
      · rw [h.one c hc] at h0
        grind
      · by_cases hp : ∃ b ∈ bs, b.1 = i
        · obtain ⟨b, mb, rfl⟩ := hp
          rw [h.off c hc b mb (Ne.symm ne)]
          grind
        · rw [z1 i hi fun b mb e => hp ⟨b, mb, e⟩]
          grind
    have e : w = tellV bs w (frees n bs) := by
      funext i
      rcases Nat.lt_or_ge i n with hi | hi
      · by_cases hp : ∃ b ∈ bs, b.1 = i
        · obtain ⟨b, mb, rfl⟩ := hp
          have := z2 b mb
          grind
        · have := z1 i hi fun b mb e => hp ⟨b, mb, e⟩
          grind
      · rw [hw.1 i hi, ht.1 i hi]
    rw [e]
    exact tell_spn bs w _
/-- rows each with a place of its own, at which those ahead have 0: none is made by those ahead -/
theorem Good.own_places {n : Nat} (g : Good inv n) (bs : List (Nat × Vec p)) (hw : ∀ j, j < n → ∀ i, n ≤ i → crossV bs j i = 0) : ∀ (m : Nat) (js : List Nat), js.length = m → js.Nodup → (∀ j ∈ js, j < n ∧ ∀ b ∈ bs, b.1 ≠ j) → dim inv n (js.map (crossV bs)) = js.length
  | 0, js, hl, _, _ => by
    have e : js = [] := List.eq_nil_of_length_eq_zero hl
    subst e
    exact dim_nil n
  | m + 1, js, hl, nd, hf => by
    obtain ⟨js', j, rfl⟩ : ∃ js' j, js = js' ++ [j] := by
      rcases List.eq_nil_or_concat js with e | ⟨l, b, e⟩
      · rw [e] at hl
        cases hl
      · exact ⟨l, b, by rw [e, List.concat_eq_append]⟩
    have nd' : js'.Nodup := (List.nodup_append.mp nd).1
    have nj : j ∉ js' := fun hm => (List.nodup_append.mp nd).2.2 j hm j (by simp) rfl
    have hf' : ∀ k ∈ js', k < n ∧ ∀ b ∈ bs, b.1 ≠ k := fun k hk => hf k (List.mem_append_left _ hk)
    have hj := hf j (by simp)
    have ih := own_places g bs hw m js' (by simpa using hl) nd' hf'
    have wd : Wid n (js'.map (crossV bs)) := fun x hx => by
      obtain ⟨k, mk, rfl⟩ := List.mem_map.mp hx
      exact hw k (hf' k mk).1
    rw [List.map_append, List.map_cons, List.map_nil, g.out wd (hw j hj.1) fun hs => ?_, ih]
    · simp
    · have hz : Sub (fun x : Vec p => x j = 0) := ⟨rfl, fun {x y} hx hy => by show x j + y j = 0; rw [hx, hy]; grind, fun c {x} hx => by show c * x j = 0; rw [hx]; grind⟩
      have h0 : crossV bs j j = 0 := spn_le hz (fun v hv => by
        obtain ⟨k, mk, rfl⟩ := List.mem_map.mp hv
        rw [cross_free bs k j hj.2, if_neg (fun e => nj (by rw [e]; exact mk))]) hs
      rw [cross_free bs j j hj.2, if_pos rfl] at h0
      exact g.one h0
theorem Good.perp_dim {n : Nat} (g : Good inv n) {bs : List (Nat × Vec p)} (h : PF n bs) : dim inv n ((frees n bs).map (crossV bs)) + bs.length = n := by
  rw [g.own_places bs (fun j hj => cross_wid bs n j h.lt hj) _ _ rfl (frees_nodup n bs) fun j hj => mem_frees.mp hj]
  exact frees_len h
theorem Good.pf_dim {n : Nat} (g : Good inv n) {bs : List (Nat × Vec p)} (h : PF n bs) : dim inv n (bs.map (·.2)) = bs.length := by
  have hw : Wid n (bs.map (·.2)) := fun x hx => by
    obtain ⟨b, mb, rfl⟩ := List.mem_map.mp hx
    exact h.wid b mb
  have e := h.uniq g.one (plainV_pf inv g.inv hw) fun x => (plainV_spn inv g.inv hw x).symm
  unfold dim
  rw [← e]
/-- across of across is the room again -/
theorem Good.perp_perp {n : Nat} (g : Good inv n) {bs cs : List (Nat × Vec p)} (hb : PF n bs) (hc : PF n cs) (h : ∀ w, Spn (cs.map (·.2)) w ↔ Perp n (Spn (bs.map (·.2))) w) (x : Vec p) : Perp n (Spn (cs.map (·.2))) x ↔ Spn (bs.map (·.2)) x := by
  have hbw : ∀ y, Spn (bs.map (·.2)) y → ∀ i, n ≤ i → y i = 0 := fun y hy i hi => by
    have hz : Sub (fun x : Vec p => x i = 0) := ⟨rfl, fun {x y} hx hy => by show x i + y i = 0; rw [hx, hy]; grind, fun c {x} hx => by show c * x i = 0; rw [hx]; grind⟩
    refine spn_le hz (fun v hv => ?_) hy
    obtain ⟨b, mb, rfl⟩ := List.mem_map.mp hv
    exact hb.wid b mb i hi
  have sub : ∀ y, Spn (bs.map (·.2)) y → Perp n (Spn (cs.map (·.2))) y := fun y hy => ⟨hbw y hy, fun w hw => by rw [dot_comm]; exact ((h w).mp hw).2 y hy⟩
  refine ⟨fun hx => ?_, sub x⟩
  -- sizes: n - (n - s)
  have wc : Wid n ((frees n cs).map (crossV cs)) := fun y hy => by
    obtain ⟨k, mk, rfl⟩ := List.mem_map.mp hy
    exact cross_wid cs n k hc.lt (mem_frees.mp mk).1
  have wb : Wid n ((frees n bs).map (crossV bs)) := fun y hy => by
    obtain ⟨k, mk, rfl⟩ := List.mem_map.mp hy
    exact cross_wid bs n k hb.lt (mem_frees.mp mk).1
  have d1 := g.perp_dim hb
  have d2 := g.perp_dim hc
  have wcs : Wid n (cs.map (·.2)) := fun x hx => by
    obtain ⟨b, mb, rfl⟩ := List.mem_map.mp hx
    exact hc.wid b mb
  have d3 : dim inv n ((frees n bs).map (crossV bs)) = cs.length := by
    rw [g.same wb wcs fun w => (hb.perp_spn w).trans (h w).symm, g.pf_dim hc]
  have hP := plainV_pf inv g.inv wc
  have sP := plainV_spn inv g.inv wc
  have := hb.same_of_len hP g.one (fun y hy => (sP y).mpr ((hc.perp_spn y).mpr (sub y hy))) (by
    show dim inv n ((frees n cs).map (crossV cs)) ≤ bs.length
    omega) ((sP x).mpr ((hc.perp_spn x).mpr hx))
  exact this
/-- across of both rooms joined is what their across share -/
theorem perp_app {n : Nat} {us ws : List (Vec p)} (w : Vec p) : Perp n (Spn (us ++ ws)) w ↔ Perp n (Spn us) w ∧ Perp n (Spn ws) w := by
  constructor
  · intro h
    exact ⟨⟨h.1, fun x hx => h.2 x (spn_left hx)⟩, ⟨h.1, fun x hx => h.2 x (spn_right hx)⟩⟩
  · rintro ⟨h1, h2⟩
    refine ⟨h1.1, fun x hx => ?_⟩
    obtain ⟨s, t, hs, ht, rfl⟩ := spn_app.mp hx
    rw [dot_add, h1.2 s hs, h2.2 t ht]
    grind
end
end Lin
/-! Which of some rows are needed: those that the ones ahead of them don't make. -/
namespace OC
open Lin
section
variable {q : Nat} [NeZero q]
theorem rowsOk_app {p : Int} {n : Nat} {rs ts : List (List Int)} (h1 : RowsOk p n rs) (h2 : RowsOk p n ts) : RowsOk p n (rs ++ ts) := fun x hx => by
  rcases List.mem_append.mp hx with h' | h'
  · exact h1 x h'
  · exact h2 x h'
theorem rowsOk_nil {p : Int} {n : Nat} : RowsOk p n [] := fun r hr => (nomatch hr)
theorem plainR_more (hF : Fld (q : Int)) {n : Nat} {rows : List (List Int)} {r : List Int} (h : RowsOk q n rows) (hr : RowsOk q n [r]) (hn : ¬ Mk q rows (toV r)) : (plainR q n (rows ++ [r])).length = (plainR q n rows).length + 1 := by
  have h2 : (2 : Int) ≤ q := hF.1
  have hr' := hr r List.mem_cons_self
  rw [plainR_len h, plainR_len (rowsOk_app h hr), List.map_append, List.map_cons, List.map_nil]
  exact plainV_more invF (one_ne (by omega)) (invF_ok hF) (rows_wid h) (fun i hi => toV_wid hr'.1 i hi) hn
theorem mk_app_of {rows : List (List Int)} {r : List Int} (h : Mk q rows (toV r)) (x : Vec q) : Mk q (rows ++ [r]) x ↔ Mk q rows x := by
  unfold Mk
  rw [List.map_append]
  constructor
  · intro hx
    exact spn_append (spn_sub _) (fun _ h => h) (fun y hy => spn_sub_of (fun v hv => by
      have : v = toV r := by simpa using hv
      rw [this]
      exact h) hy) x hx
  · exact spn_left
theorem plainR_congr (hF : Fld (q : Int)) {n : Nat} {one other : List (List Int)} (h1 : RowsOk q n one) (h2 : RowsOk q n other) (h : ∀ x, Mk q one x ↔ Mk q other x) : plainR q n one = plainR q n other :=
  (plainR_pf hF h1).plain hF h2 fun x => (plainR_mk hF h1 x).trans (h x)
end
end OC
/-! The program's own way to the plain form: a row more, taken off, made plain, sorted. Core Lean alone. -/
namespace Lin
set_option linter.all false
section
variable {p : Nat} [NeZero p]
def leftF (bs : List (Nat × Vec p)) (x : Vec p) : Vec p := bs.foldl (fun x b => lessV x b.2 b.1) x
theorem red_congr : ∀ (l : List (Nat × Vec p)) (x y : Vec p), (∀ c ∈ l, y c.1 = x c.1) → red l y = red l x
  | [], _, _, _ => rfl
  | b :: l, x, y, h => by
    show addV (mulV (y b.1) b.2) (red l y) = addV (mulV (x b.1) b.2) (red l x)
    rw [h b List.mem_cons_self, red_congr l x y fun c hc => h c (List.mem_cons_of_mem _ hc)]
theorem leftF_eq : ∀ (l : List (Nat × Vec p)) (x : Vec p), l.Pairwise (fun a c => a.2 c.1 = 0) → leftF l x = leftV l x
  | [], x, _ => by
    funext i
    show x i = x i - 0
    grind
  | b :: l, x, h => by
    obtain ⟨h1, h2⟩ := List.pairwise_cons.mp h
    show leftF l (lessV x b.2 b.1) = _
    rw [leftF_eq l _ h2]
    have e : red l (lessV x b.2 b.1) = red l x := red_congr l x _ fun c hc => by
      show x c.1 - x b.1 * b.2 c.1 = x c.1
      rw [h1 c hc]
      grind
    funext i
    show (x i - x b.1 * b.2 i) - red l (lessV x b.2 b.1) i = x i - (x b.1 * b.2 i + red l x i)
    rw [e]
    grind
theorem PF.leftF {n : Nat} {bs : List (Nat × Vec p)} (h : PF n bs) (x : Vec p) : leftF bs x = leftV bs x := by
  refine leftF_eq bs x ?_
  refine h.inc.imp_of_mem fun {a c} ha hc hlt => h.off a ha c hc (by omega)
theorem red_wid : ∀ (l : List (Nat × Vec p)) (x : Vec p) (i : Nat), (∀ b ∈ l, b.2 i = 0) → red l x i = 0
  | [], _, _, _ => rfl
  | b :: l, x, i, h => by
    show x b.1 * b.2 i + red l x i = 0
    rw [red_wid l x i fun c hc => h c (List.mem_cons_of_mem _ hc), h b List.mem_cons_self]
    grind
/-- the pairs behind one row more -/
def moreV (inv : Fin p → Fin p) (bs : List (Nat × Vec p)) (y : Vec p) (j : Nat) : List (Nat × Vec p) := (j, ownV inv y j) :: bs.map fun b => (b.1, lessV b.2 (ownV inv y j) j)
variable (inv : Fin p → Fin p)
theorem moreV_pf {n : Nat} {bs : List (Nat × Vec p)} (h : PF n bs) (hinv : ∀ a : Fin p, a ≠ 0 → inv a * a = 1) {x : Vec p} (hx : ∀ i, n ≤ i → x i = 0) {j : Nat} (hj : Lead (leftV bs x) j) {cs : List (Nat × Vec p)} (hp : cs.Perm (moreV inv bs (leftV bs x) j)) (hi : cs.Pairwise (fun a b => a.1 < b.1)) :
    PF n cs ∧ ∀ z, Spn (cs.map (·.2)) z ↔ Spn (bs.map (·.2) ++ [x]) z := by
  generalize hy : leftV bs x = y at hj hp
  have yb : ∀ b ∈ bs, y b.1 = 0 := fun b hb => by rw [← hy]; exact left_at h x hb
  have yw : ∀ i, n ≤ i → y i = 0 := fun i hi => by
    rw [← hy]
    show x i - red bs x i = 0
    rw [hx i hi, red_wid bs x i fun b hb => h.wid b hb i hi]
    grind
  have jn : j < n := by
    rcases Nat.lt_or_ge j n with h' | h'
    · exact h'
    · exact absurd (yw j h') hj.1
  have jb : ∀ b ∈ bs, b.1 ≠ j := fun b hb e => hj.1 (by rw [← e]; exact yb b hb)
  generalize hf : ownV inv y j = f
  have fd : ∀ i, f i = inv (y j) * y i := fun i => by rw [← hf]; rfl
  have fj : f j = 1 := by rw [fd]; exact hinv _ hj.1
  have f0 : ∀ i, y i = 0 → f i = 0 := fun i e => by rw [fd, e]; grind
  have mem : ∀ c, c ∈ cs ↔ c = (j, f) ∨ ∃ b ∈ bs, c = (b.1, lessV b.2 f j) := fun c => by
    rw [hp.mem_iff]
    unfold moreV
    rw [hf, List.mem_cons, List.mem_map]
    constructor
    · rintro (e | ⟨b, hb, e⟩)
      · exact .inl e
      · exact .inr ⟨b, hb, e.symm⟩
    · rintro (e | ⟨b, hb, e⟩)
      · exact .inl e
      · exact .inr ⟨b, hb, e.symm⟩
  constructor
  · refine ⟨hi, fun c hc => ?_, fun c hc => ?_, fun c hc i hl => ?_, fun c hc d hd hne => ?_, fun c hc i hl => ?_⟩
    · rcases (mem c).mp hc with rfl | ⟨b, hb, rfl⟩
      · exact jn
      · exact h.lt b hb
    · rcases (mem c).mp hc with rfl | ⟨b, hb, rfl⟩
      · exact fj
      · show b.2 b.1 - b.2 j * f b.1 = 1
        rw [f0 _ (yb b hb), h.one b hb]
        grind
    · rcases (mem c).mp hc with rfl | ⟨b, hb, rfl⟩
      · exact f0 i (hj.2 i hl)
      · have hl : i < b.1 := hl
        show b.2 i - b.2 j * f i = 0
        rw [h.low b hb i hl]
        rcases Nat.lt_or_ge i j with h' | h'
        · rw [f0 i (hj.2 i h')]
          grind
        · rw [h.low b hb j (by omega)]
          grind
    · rcases (mem c).mp hc with rfl | ⟨b, hb, rfl⟩
      · rcases (mem d).mp hd with rfl | ⟨b', hb', rfl⟩
        · exact absurd rfl hne
        · exact f0 _ (yb b' hb')
      · rcases (mem d).mp hd with rfl | ⟨b', hb', rfl⟩
        · show b.2 j - b.2 j * f j = 0
          rw [fj]
          grind
        · show b.2 b'.1 - b.2 j * f b'.1 = 0
          rw [f0 _ (yb b' hb'), h.off b hb b' hb' hne]
          grind
    · rcases (mem c).mp hc with rfl | ⟨b, hb, rfl⟩
      · exact f0 i (yw i hl)
      · show b.2 i - b.2 j * f i = 0
        rw [f0 i (yw i hl), h.wid b hb i hl]
        grind
  · have Sc := spn_sub (cs.map (·.2))
    have Sx := spn_sub (bs.map (·.2) ++ [x])
    have inb : ∀ b ∈ bs, Spn (bs.map (·.2) ++ [x]) b.2 := fun b hb => spn_mem (List.mem_append_left _ (List.mem_map_of_mem hb))
    have inx : Spn (bs.map (·.2) ++ [x]) x := spn_mem (List.mem_append_right _ List.mem_cons_self)
    have iny : Spn (bs.map (·.2) ++ [x]) y := by
      have hr : Spn (bs.map (·.2) ++ [x]) (red bs x) := spn_left (spn_red bs x)
      have := Sx.less 1 inx hr
      have e : y = fun i => x i - 1 * red bs x i := by
        rw [← hy]
        funext i
        show x i - red bs x i = x i - 1 * red bs x i
        grind
      rw [e]
      exact this
    have inf : Spn (bs.map (·.2) ++ [x]) f := by
      have := Sx.mul (inv (y j)) iny
      rw [← hf]
      exact this
    have cf : Spn (cs.map (·.2)) f := spn_mem (List.mem_map.mpr ⟨(j, f), (mem _).mpr (.inl rfl), rfl⟩)
    have cb : ∀ b ∈ bs, Spn (cs.map (·.2)) b.2 := fun b hb => by
      have h1 : Spn (cs.map (·.2)) (lessV b.2 f j) := spn_mem (List.mem_map.mpr ⟨(b.1, lessV b.2 f j), (mem _).mpr (.inr ⟨b, hb, rfl⟩), rfl⟩)
      have h2 := Sc.add h1 (Sc.mul (b.2 j) cf)
      have e : b.2 = addV (lessV b.2 f j) (mulV (b.2 j) f) := by
        funext i
        show b.2 i = (b.2 i - b.2 j * f i) + b.2 j * f i
        grind
      rw [e]
      exact h2
    have cx : Spn (cs.map (·.2)) x := by
      have h1 : Spn (cs.map (·.2)) (red bs x) := spn_le Sc (fun v hv => by
        obtain ⟨b, hb, rfl⟩ := List.mem_map.mp hv
        exact cb b hb) (spn_red bs x)
      have h2 := Sc.add h1 (Sc.mul (y j) cf)
      have e : x = addV (red bs x) (mulV (y j) f) := by
        funext i
        show x i = red bs x i + y j * f i
        have e1 : y i = x i - red bs x i := by rw [← hy]; rfl
        have e2 := hinv _ hj.1
        rw [fd]
        grind
      rw [e]
      exact h2
    intro z
    constructor
    · intro hz
      refine spn_le Sx (fun v hv => ?_) hz
      obtain ⟨c, hc, rfl⟩ := List.mem_map.mp hv
      rcases (mem c).mp hc with rfl | ⟨b, hb, rfl⟩
      · exact inf
      · exact Sx.less (b.2 j) (inb b hb) inf
    · intro hz
      refine spn_le Sc (fun v hv => ?_) hz
      rcases List.mem_append.mp hv with hv | hv
      · obtain ⟨b, hb, rfl⟩ := List.mem_map.mp hv
        exact cb b hb
      · have : v = x := by simpa using hv
        rw [this]
        exact cx
end
end Lin
namespace OC
set_option linter.all false
open Lin
/-! ### first places -/
def fpR (r : List Int) : Nat := r.findIdx fun x => decide (x ≠ 0)
theorem fpR_le (r : List Int) : fpR r ≤ r.length := List.findIdx_le_length
theorem fpR_of {r : List Int} {j : Nat} (h : r.getD j 0 ≠ 0) (hl : ∀ i, i < j → r.getD i 0 = 0) : fpR r = j := by
  have hj : j < r.length := by
    rcases Nat.lt_or_ge j r.length with h' | h'
    · exact h'
    · exact absurd (gd_ge h') h
  unfold fpR
  rw [List.findIdx_eq hj]
  refine ⟨decide_eq_true (by rw [gd_lt hj] at h; exact h), fun i hi => ?_⟩
  have := hl i hi
  rw [gd_lt (by omega)] at this
  rw [this]
  rfl
theorem fpR_at {r : List Int} (h : fpR r < r.length) : r.getD (fpR r) 0 ≠ 0 := by
  have e := List.findIdx_getElem (xs := r) (p := fun x => decide (x ≠ 0)) (w := h)
  rw [gd_lt h]
  exact of_decide_eq_true e
theorem fpR_low {r : List Int} {i : Nat} (h : i < fpR r) : r.getD i 0 = 0 := by
  have hl : i < r.length := Nat.lt_of_lt_of_le h (fpR_le r)
  have e := List.not_of_lt_findIdx h
  rw [gd_lt hl]
  apply Classical.byContradiction
  intro hne
  have e2 : decide (r[i] ≠ 0) = true := decide_eq_true hne
  rw [e2] at e
  cases e
theorem fpR_all {r : List Int} (h : fpR r = r.length) : ∀ x ∈ r, x = 0 := by
  intro x hx
  obtain ⟨i, hi, rfl⟩ := List.getElem_of_mem hx
  have := fpR_low (r := r) (i := i) (by omega)
  rwa [gd_lt hi] at this
def leftR (p : Int) (room : List (List Int)) (r : List Int) : List Int := room.foldl (fun r b => lessR p r b (fpR b)) r
/-! ### the order of tuples -/
def codeR (B : Int) : List Int → Int
  | [] => 0
  | d :: r => d * B ^ r.length + codeR B r
theorem codeR_bd {B : Int} (hB : 0 < B) : ∀ r : List Int, (∀ x ∈ r, 0 ≤ x ∧ x < B) → 0 ≤ codeR B r ∧ codeR B r < B ^ r.length
  | [], _ => by
    refine ⟨Int.le_refl _, ?_⟩
    show (0 : Int) < B ^ 0
    rw [Int.pow_zero]
    decide
  | d :: r, h => by
    obtain ⟨c0, c1⟩ := codeR_bd hB r fun x hx => h x (List.mem_cons_of_mem _ hx)
    obtain ⟨d0, d1⟩ := h d List.mem_cons_self
    show 0 ≤ d * B ^ r.length + codeR B r ∧ d * B ^ r.length + codeR B r < B ^ (r.length + 1)
    rw [Int.pow_succ]
    generalize B ^ r.length = P at c1 ⊢
    generalize codeR B r = c at c0 c1 ⊢
    have p1 : (d + 1) * P ≤ B * P := Int.mul_le_mul_of_nonneg_right (by omega) (by omega)
    have p2 : 0 * P ≤ d * P := Int.mul_le_mul_of_nonneg_right d0 (by omega)
    rw [Int.add_mul, Int.one_mul, Int.mul_comm B P] at p1
    rw [Int.zero_mul] at p2
    generalize d * P = X at p1 p2 ⊢
    generalize P * B = Y at p1 ⊢
    constructor <;> omega
theorem fpR_zero (r : List Int) : fpR (0 :: r) = fpR r + 1 := by
  unfold fpR
  rw [List.findIdx_cons]
  simp
theorem fpR_nz {d : Int} (h : d ≠ 0) (r : List Int) : fpR (d :: r) = 0 := by
  unfold fpR
  rw [List.findIdx_cons]
  simp [h]
theorem code_lead {B : Int} (hB : 0 < B) : ∀ (a b : List Int), a.length = b.length → (∀ x ∈ a, 0 ≤ x ∧ x < B) → (∀ x ∈ b, 0 ≤ x ∧ x < B) → fpR b < fpR a → codeR B a < codeR B b
  | [], [], _, _, _, h => absurd h (Nat.lt_irrefl _)
  | [], _ :: _, e, _, _, _ => by cases e
  | _ :: _, [], e, _, _, _ => by cases e
  | x :: a, y :: b, e, ha, hb, h => by
    have e' : a.length = b.length := Nat.succ.inj e
    have x0 : x = 0 := by
      apply Classical.byContradiction
      intro hx
      rw [fpR_nz hx] at h
      exact Nat.not_lt_zero _ h
    subst x0
    have ha' : ∀ x ∈ a, 0 ≤ x ∧ x < B := fun x hx => ha x (List.mem_cons_of_mem _ hx)
    have hb' : ∀ x ∈ b, 0 ≤ x ∧ x < B := fun x hx => hb x (List.mem_cons_of_mem _ hx)
    show 0 * B ^ a.length + codeR B a < y * B ^ b.length + codeR B b
    by_cases hy : y = 0
    · subst hy
      rw [fpR_zero, fpR_zero] at h
      have := code_lead hB a b e' ha' hb' (by omega)
      omega
    · have c1 := (codeR_bd hB a ha').2
      have c2 := (codeR_bd hB b hb').1
      have y1 := (hb y List.mem_cons_self).1
      rw [e'] at c1
      generalize B ^ b.length = P at c1 ⊢
      rw [Int.zero_mul]
      have p1 : 1 * P ≤ y * P := by
        have c0 := (codeR_bd hB a ha').1
        exact Int.mul_le_mul_of_nonneg_right (by omega) (by omega)
      rw [Int.one_mul] at p1
      generalize y * P = X at p1 ⊢
      omega
/-! ### rows -/
section
variable {q : Nat} [NeZero q]
theorem toV_ne {r : List Int} (h : ∀ x ∈ r, 0 ≤ x ∧ x < (q : Int)) (i : Nat) : toV (q := q) r i ≠ 0 ↔ r.getD i 0 ≠ 0 := cF_ne (getD_lt q_pos h i)
theorem toV_eq0 {r : List Int} (h : ∀ x ∈ r, 0 ≤ x ∧ x < (q : Int)) (i : Nat) : toV (q := q) r i = 0 ↔ r.getD i 0 = 0 := by
  have := toV_ne h i
  constructor
  · intro e
    apply Classical.byContradiction
    intro hn
    exact this.mpr hn e
  · intro e
    apply Classical.byContradiction
    intro hn
    exact this.mp hn e
theorem fpR_lead {r : List Int} {j : Nat} (h : ∀ x ∈ r, 0 ≤ x ∧ x < (q : Int)) (hl : Lead (toV (q := q) r) j) : fpR r = j := fpR_of ((toV_ne h j).mp hl.1) fun i hi => (toV_eq0 h i).mp (hl.2 i hi)
theorem lead_fpR {r : List Int} (h : ∀ x ∈ r, 0 ≤ x ∧ x < (q : Int)) (hl : fpR r < r.length) : Lead (toV (q := q) r) (fpR r) := ⟨(toV_ne h _).mpr (fpR_at hl), fun i hi => (toV_eq0 h i).mpr (fpR_low hi)⟩
theorem leftR_sim {n : Nat} : ∀ (room : List (List Int)) (bs : List (Nat × Vec q)) (r : List Int), RowsOk q n room → RowsOk q n [r] → bs.map (·.2) = room.map (toV (q := q)) → (∀ b ∈ bs, Lead b.2 b.1) → RowsOk q n [leftR q room r] ∧ toV (q := q) (leftR q room r) = leftF bs (toV r)
  | [], [], r, _, h, _, _ => ⟨h, rfl⟩
  | [], _ :: _, _, _, _, e, _ => by cases e
  | _ :: _, [], _, _, _, e, _ => by cases e
  | c :: room, b :: bs, r, h1, h2, e, hl => by
    rw [List.map_cons, List.map_cons] at e
    obtain ⟨e1, e2⟩ := List.cons.inj e
    have hc := h1 c List.mem_cons_self
    have hr := h2 r List.mem_cons_self
    have fj : fpR c = b.1 := fpR_lead (q := q) hc.2 (by rw [← e1]; exact hl b List.mem_cons_self)
    have ok : RowsOk q n [lessR q r c (fpR c)] := fun x hx => by
      have : x = lessR q r c (fpR c) := by simpa using hx
      rw [this]
      exact less_row q_pos hr.1 hc.1 _
    obtain ⟨a1, a2⟩ := leftR_sim room bs (lessR q r c (fpR c)) (fun x hx => h1 x (List.mem_cons_of_mem _ hx)) ok e2 fun x hx => hl x (List.mem_cons_of_mem _ hx)
    refine ⟨a1, ?_⟩
    show toV (q := q) (leftR q room (lessR q r c (fpR c))) = leftF bs (lessV (toV r) b.2 b.1)
    rw [a2, toV_less (by rw [hr.1, hc.1]), fj, e1]
theorem q2 (hF : Fld (q : Int)) : 2 ≤ q := by
  have : (2 : Int) ≤ q := hF.1
  omega
theorem IsPF.left (hF : Fld (q : Int)) {n : Nat} {room : List (List Int)} (h : IsPF q n room) {r : List Int} (hr : RowsOk q n [r]) : ∃ bs, PF n bs ∧ bs.map (·.2) = room.map (toV (q := q)) ∧ RowsOk q n [leftR q room r] ∧ toV (q := q) (leftR q room r) = leftV bs (toV r) := by
  obtain ⟨ok, bs, pf, e⟩ := h
  obtain ⟨a1, a2⟩ := leftR_sim room bs r ok hr e fun b hb => pf.leads (one_ne (q2 hF)) hb
  exact ⟨bs, pf, e, a1, by rw [a2, pf.leftF]⟩
theorem noughts_toV {r : List Int} (h : ∀ x ∈ r, 0 ≤ x ∧ x < (q : Int)) : toV (q := q) r = zeroV ↔ ∀ x ∈ r, x = 0 := by
  constructor
  · intro e x hx
    obtain ⟨i, hi, rfl⟩ := List.getElem_of_mem hx
    have := (toV_eq0 h i).mp (congrFun e i)
    rwa [gd_lt hi] at this
  · intro e
    funext i
    refine (toV_eq0 h i).mpr ?_
    by_cases hi : i < r.length
    · rw [gd_lt hi]
      exact e _ (List.getElem_mem hi)
    · exact gd_ge (by omega)
/-- noughts are left just where the room has the row -/
theorem IsPF.left_zero (hF : Fld (q : Int)) {n : Nat} {room : List (List Int)} (h : IsPF q n room) {r : List Int} (hr : RowsOk q n [r]) : (∀ x ∈ leftR q room r, x = 0) ↔ Mk q room (toV r) := by
  obtain ⟨bs, pf, e, ok, et⟩ := h.left hF hr
  rw [← noughts_toV (ok _ List.mem_cons_self).2, et, Lin.left_zero pf, e]
  rfl
theorem perm_pw {α : Type} {R : α → α → Prop} {l m : List α} (hs : ∀ a b, R a b → R b a) (hp : l.Perm m) (h : m.Pairwise R) : l.Pairwise R := (hp.pairwise_iff fun {a b} => hs a b).mpr h
/-- the plain form behind one row more, as the program makes it -/
theorem IsPF.widen (hF : Fld (q : Int)) {n : Nat} {room : List (List Int)} (h : IsPF q n room) {r : List Int} (hr : RowsOk q n [r]) (hne : fpR (leftR q room r) < n) {rs : List (List Int)}
    (hp : rs.Perm (ownR q (leftR q room r) (fpR (leftR q room r)) :: room.map fun b => lessR q b (ownR q (leftR q room r) (fpR (leftR q room r))) (fpR (leftR q room r)))) (hs : rs.Pairwise fun a b => codeR q b ≤ codeR q a) : rs = plainR q n (room ++ [r]) := by
  obtain ⟨bs, pf, e, ok, et⟩ := h.left hF hr
  have okl := ok _ List.mem_cons_self
  have hall : RowsOk q n (room ++ [r]) := rowsOk_app h.1 hr
  have ld : Lead (leftV bs (toV r)) (fpR (leftR q room r)) := by
    rw [← et]
    exact lead_fpR okl.2 (by rw [okl.1]; exact hne)
  generalize hj : fpR (leftR q room r) = j at hne hp ld
  have eo : toV (q := q) (ownR q (leftR q room r) j) = ownV invF (leftV bs (toV r)) j := by
    rw [toV_own okl.2, et]
  have oko := own_row (q_pos (q := q)) okl.1 j
  generalize ownR q (leftR q room r) j = f at hp eo oko
  have okL : RowsOk q n (f :: room.map fun b => lessR q b f j) := fun x hx => by
    rcases List.mem_cons.mp hx with rfl | hx
    · exact oko
    · obtain ⟨b, hb, rfl⟩ := List.mem_map.mp hx
      exact less_row q_pos (h.1 b hb).1 oko.1 j
  have okS : RowsOk q n rs := fun x hx => okL x (hp.mem_iff.mp hx)
  have one1 := one_ne (q := q) (q2 hF)
  -- pairs of the list
  have pairs : (f :: room.map fun b => lessR q b f j).map (fun r => (fpR r, toV (q := q) r)) = moreV invF bs (leftV bs (toV r)) j := by
    have leadM : ∀ c ∈ moreV invF bs (leftV bs (toV r)) j, Lead c.2 c.1 := by
      intro c hc
      have yb : ∀ b ∈ bs, leftV bs (toV r) b.1 = 0 := fun b hb => left_at pf _ hb
      have fd : ∀ i, ownV invF (leftV bs (toV r)) j i = invF (leftV bs (toV r) j) * leftV bs (toV r) i := fun i => rfl
      rcases List.mem_cons.mp hc with rfl | hc
      · refine ⟨?_, fun i hi => ?_⟩
        · show ownV invF (leftV bs (toV r)) j j ≠ 0
          rw [fd, invF_ok hF _ ld.1]
          exact one1
        · show ownV invF (leftV bs (toV r)) j i = 0
          rw [fd, ld.2 i hi]
          grind
      · obtain ⟨b, hb, rfl⟩ := List.mem_map.mp hc
        refine ⟨?_, fun i hi => ?_⟩
        · show b.2 b.1 - b.2 j * ownV invF (leftV bs (toV r)) j b.1 ≠ 0
          rw [fd, yb b hb, pf.one b hb]
          have : (1 : Fin q) - b.2 j * (invF (leftV bs (toV r) j) * 0) = 1 := by grind
          rw [this]
          exact one1
        · have hi : i < b.1 := hi
          show b.2 i - b.2 j * ownV invF (leftV bs (toV r)) j i = 0
          rw [fd, pf.low b hb i hi]
          rcases Nat.lt_or_ge i j with h' | h'
          · rw [ld.2 i h']
            grind
          · rw [pf.low b hb j (by omega)]
            grind
    have e2 : (f :: room.map fun b => lessR q b f j).map (toV (q := q)) = (moreV invF bs (leftV bs (toV r)) j).map (·.2) := by
      unfold moreV
      rw [List.map_cons, List.map_cons, eo, List.map_map, List.map_map]
      congr 1
      have e3 : bs.map ((fun b : Nat × Vec q => b.2) ∘ fun b => (b.1, lessV b.2 (ownV invF (leftV bs (toV r)) j) j)) = (bs.map (·.2)).map fun v => lessV v (ownV invF (leftV bs (toV r)) j) j := by
        rw [List.map_map]
        rfl
      rw [e3, e, List.map_map]
      apply List.map_congr_left
      intro x hx
      show toV (lessR q x f j) = lessV (toV x) (ownV invF (leftV bs (toV r)) j) j
      rw [toV_less (by rw [(h.1 x hx).1, oko.1]), eo]
    have key : ∀ (L : List (List Int)) (M : List (Nat × Vec q)), RowsOk q n L → (∀ c ∈ M, Lead c.2 c.1) → L.map (toV (q := q)) = M.map (·.2) → L.map (fun r => (fpR r, toV (q := q) r)) = M := by
      intro L
      induction L with
      | nil =>
        intro M _ _ e
        cases M with
        | nil => rfl
        | cons m M => cases e
      | cons x L ih =>
        intro M ok lm e
        cases M with
        | nil => cases e
        | cons m M =>
          rw [List.map_cons, List.map_cons] at e
          obtain ⟨a1, a2⟩ := List.cons.inj e
          rw [List.map_cons, ih M (fun y hy => ok y (List.mem_cons_of_mem _ hy)) (fun c hc => lm c (List.mem_cons_of_mem _ hc)) a2]
          congr 1
          have := lm m List.mem_cons_self
          rw [← a1] at this
          rw [fpR_lead (ok x List.mem_cons_self).2 this, a1]
    exact key _ _ okL leadM e2
  have pm : (rs.map fun r => (fpR r, toV (q := q) r)).Perm (moreV invF bs (leftV bs (toV r)) j) := by
    rw [← pairs]
    exact hp.map _
  have dist : (moreV invF bs (leftV bs (toV r)) j).Pairwise fun a b => a.1 ≠ b.1 := by
    unfold moreV
    rw [List.pairwise_cons]
    constructor
    · intro c hc
      obtain ⟨b, hb, rfl⟩ := List.mem_map.mp hc
      intro z
      have z : j = b.1 := z
      apply ld.1
      rw [z]
      exact left_at pf _ hb
    · rw [List.pairwise_map]
      exact pf.inc.imp fun {a b} hab => by
        show a.1 ≠ b.1
        omega
  have dist2 := perm_pw (fun a b hab => Ne.symm hab) pm dist
  rw [List.pairwise_map] at dist2
  have inc : (rs.map fun r => (fpR r, toV (q := q) r)).Pairwise fun a b => a.1 < b.1 := by
    rw [List.pairwise_map]
    refine List.Pairwise.imp_of_mem (fun {a b} ha hb hab => ?_) (dist2.and hs)
    obtain ⟨h1, h2⟩ := hab
    have h1 : fpR a ≠ fpR b := h1
    show fpR a < fpR b
    apply Classical.byContradiction
    intro hn
    have := code_lead (q_pos (q := q)) a b (by rw [(okS a ha).1, (okS b hb).1]) (okS a ha).2 (okS b hb).2 (by omega)
    omega
  obtain ⟨g1, g2⟩ := moreV_pf invF pf (invF_ok hF) (x := toV r) (fun i hi => toV_wid (hr r List.mem_cons_self).1 i hi) ld pm inc
  have em : (rs.map fun r => (fpR r, toV (q := q) r)).map (·.2) = rs.map (toV (q := q)) := by
    rw [List.map_map]
    rfl
  refine IsPF.plain hF ⟨okS, _, g1, em⟩ hall fun x => ?_
  have := g2 x
  rw [em, e] at this
  unfold Mk
  rw [List.map_append]
  exact this
/-- a made row makes nothing new -/
theorem IsPF.widen0 (hF : Fld (q : Int)) {n : Nat} {room : List (List Int)} (h : IsPF q n room) {r : List Int} (hr : RowsOk q n [r]) (hne : ∀ x ∈ leftR q room r, x = 0) : room = plainR q n (room ++ [r]) := by
  have hm := (h.left_zero hF hr).mp hne
  exact IsPF.plain hF h (rowsOk_app h.1 hr) fun x => (mk_app_of hm x).symm
theorem isPF_iff (hF : Fld (q : Int)) {n : Nat} {room : List (List Int)} : IsPF q n room ↔ RowsOk q n room ∧ plainR q n room = room :=
  ⟨fun h => ⟨h.1, (IsPF.plain hF h h.1 fun _ => Iff.rfl).symm⟩, fun h => by
    have := plainR_pf hF h.1
    rwa [h.2] at this⟩
end
/-- a plain form: rows that are their own plain form -/
def PFR (p : Int) (n : Nat) (room : List (List Int)) : Prop := RowsOk p n room ∧ plainR p n room = room
theorem to_q {p : Int} (hF : Fld p) : ∃ q : Nat, p = (q : Int) ∧ ∃ _ : NeZero q, Fld (q : Int) := by
  have h2 := hF.1
  obtain ⟨q, rfl⟩ := Int.eq_ofNat_of_zero_le (show 0 ≤ p by omega)
  exact ⟨q, rfl, ⟨by omega⟩, hF⟩
theorem PFR.of_plain {p : Int} (hF : Fld p) {n : Nat} {rows : List (List Int)} (h : RowsOk p n rows) : PFR p n (plainR p n rows) := by
  obtain ⟨q, rfl, _, hF⟩ := to_q hF
  exact (isPF_iff hF).mp (plainR_pf hF h)
theorem PFR.nil {p : Int} (hF : Fld p) (n : Nat) : PFR p n [] := by
  have := PFR.of_plain hF (n := n) (rowsOk_nil (p := p))
  have e : plainR p n [] = [] := by
    have h : ∀ k, (List.range k).foldl (stepR p) (([] : List (List Int)), ([] : List (List Int))) = ([], []) := by
      intro k
      induction k with
      | zero => rfl
      | succ k ih => rw [List.range_succ, List.foldl_append, ih]; rfl
    unfold plainR
    rw [h]
  exact ⟨rowsOk_nil, e⟩
theorem PFR.left_ok {p : Int} (hF : Fld p) {n : Nat} {room : List (List Int)} (h : PFR p n room) {r : List Int} (hr : RowsOk p n [r]) : RowsOk p n [leftR p room r] := by
  obtain ⟨q, rfl, _, hF⟩ := to_q hF
  obtain ⟨_, _, _, ok, _⟩ := ((isPF_iff hF).mpr h).left hF hr
  exact ok
theorem PFR.widen {p : Int} (hF : Fld p) {n : Nat} {room : List (List Int)} (h : PFR p n room) {r : List Int} (hr : RowsOk p n [r]) (hne : fpR (leftR p room r) < n) {rs : List (List Int)}
    (hp : rs.Perm (ownR p (leftR p room r) (fpR (leftR p room r)) :: room.map fun b => lessR p b (ownR p (leftR p room r) (fpR (leftR p room r))) (fpR (leftR p room r)))) (hs : rs.Pairwise fun a b => codeR p b ≤ codeR p a) : rs = plainR p n (room ++ [r]) := by
  obtain ⟨q, rfl, _, hF⟩ := to_q hF
  exact ((isPF_iff hF).mpr h).widen hF hr hne hp hs
theorem PFR.widen0 {p : Int} (hF : Fld p) {n : Nat} {room : List (List Int)} (h : PFR p n room) {r : List Int} (hr : RowsOk p n [r]) (hne : ∀ x ∈ leftR p room r, x = 0) : room = plainR p n (room ++ [r]) := by
  obtain ⟨q, rfl, _, hF⟩ := to_q hF
  exact ((isPF_iff hF).mpr h).widen0 hF hr hne
/-- noughts are left just where one row more makes nothing new -/
theorem PFR.left_has {p : Int} (hF : Fld p) {n : Nat} {room : List (List Int)} (h : PFR p n room) {r : List Int} (hr : RowsOk p n [r]) : (∀ x ∈ leftR p room r, x = 0) ↔ (plainR p n (room ++ [r])).length = (plainR p n room).length := by
  obtain ⟨q, rfl, _, hF⟩ := to_q hF
  rw [((isPF_iff hF).mpr h).left_zero hF hr]
  exact (plainR_has hF h.1 hr).symm
/-- the plain form of a plain form and more rows -/
theorem plainR_app {p : Int} (hF : Fld p) {n : Nat} {rows ts : List (List Int)} (h : RowsOk p n rows) (ht : RowsOk p n ts) : plainR p n (plainR p n rows ++ ts) = plainR p n (rows ++ ts) := by
  obtain ⟨q, rfl, _, hF⟩ := to_q hF
  refine plainR_congr hF (rowsOk_app (plainR_rows h) ht) (rowsOk_app h ht) fun x => ?_
  unfold Mk
  rw [List.map_append, List.map_append]
  constructor
  · intro hx
    refine spn_le (spn_sub _) (fun v hv => ?_) hx
    rcases List.mem_append.mp hv with hv | hv
    · exact spn_left ((plainR_mk hF h v).mp (spn_mem hv))
    · exact spn_right (spn_mem hv)
  · intro hx
    refine spn_le (spn_sub _) (fun v hv => ?_) hx
    rcases List.mem_append.mp hv with hv | hv
    · exact spn_left ((plainR_mk hF h v).mpr (spn_mem hv))
    · exact spn_right (spn_mem hv)
theorem plainR_lenle {p : Int} (hF : Fld p) {n : Nat} {rows : List (List Int)} (h : RowsOk p n rows) : (plainR p n rows).length ≤ n := by
  obtain ⟨q, rfl, _, hF⟩ := to_q hF
  obtain ⟨_, bs, pf, e⟩ := plainR_pf hF h
  have e1 := congrArg List.length e
  rw [List.length_map, List.length_map] at e1
  rw [← e1]
  have h1 : (bs.map (·.1)).Pairwise (· < ·) := List.pairwise_map.mpr pf.inc
  have h2 := (sorted_len h1 (List.pairwise_lt_range (n := n)) fun x hx => by
    obtain ⟨b, hb, rfl⟩ := List.mem_map.mp hx
    exact List.mem_range.mpr (pf.lt b hb)).1
  rw [List.length_map, List.length_range] at h2
  exact h2
end OC
set_option Elab.async false
set_option linter.all false
set_option maxRecDepth 100000
/-! what laws share of rows as ints and as data -/
namespace OC
open PySem PySem.Spec PyProof.Rows L2
def plusR (p : Int) (x y : List Int) (m : Int) : List Int := List.zipWith (fun a b => (a + m * b) % p) x y
theorem plus_len {p : Int} {x y : List Int} {m : Int} (h : x.length = y.length) : (plusR p x y m).length = x.length := by
  unfold plusR
  rw [List.length_zipWith]
  omega
theorem plus_ok {p : Int} {x y : List Int} {m : Int} (hp : 0 < p) : RowOk p (plusR p x y m) := by
  intro z hz
  unfold plusR at hz
  rw [List.mem_iff_getElem?] at hz
  obtain ⟨i, hi⟩ := hz
  rw [List.getElem?_zipWith] at hi
  split at hi
  · cases Option.some.inj hi
    exact ⟨Int.emod_nonneg _ (by omega), Int.emod_lt_of_pos _ hp⟩
  · cases hi
def addR (p : Int) (x y : List Int) : List Int := List.zipWith (fun a b => (a + b) % p) x y
def timesR (p a : Int) (x : List Int) : List Int := x.map fun r => a * r % p
def madeR (p : Int) (z : List Int) (l : List (List Int × Int)) : List Int := l.foldl (fun acc rf => plusR p acc rf.1 rf.2) z
theorem made_len (p : Int) (n : Nat) : ∀ (l : List (List Int × Int)) (z : List Int), z.length = n → (∀ x ∈ l, x.1.length = n) → (madeR p z l).length = n
  | [], z, hz, _ => hz
  | x :: l, z, hz, h => by
    refine made_len p n l _ ?_ fun y hy => h y (List.mem_cons_of_mem _ hy)
    rw [plus_len (by rw [hz, h x List.mem_cons_self])]
    exact hz
theorem made_take {p : Int} {z : List Int} {l : List (List Int × Int)} {i : Nat} {x : List Int × Int} (h : l[i]? = some x) : madeR p z (l.take (i + 1)) = plusR p (madeR p z (l.take i)) x.1 x.2 := by
  unfold madeR
  rw [List.take_add_one, h, List.foldl_append]
  rfl
def intsOf : PyData → List Int
  | .list ds => ds.map fun d => match d with | .int i => i | _ => 0
  | .tuple ds => ds.map fun d => match d with | .int i => i | _ => 0
  | _ => []
theorem ints_row (r : List Int) : intsOf (rowD r) = r := by
  show (r.map PyData.int).map _ = r
  rw [List.map_map]
  exact List.map_id r
theorem rep_lst_ints {K : PySem.W.Frag} {H : Hp} {bad : Addr → Prop} : ∀ {xs : List V} {r : List Int}, RepAll K H bad xs (r.map PyData.int) → xs = r.map V.int
  | _, [], h => by cases h; rfl
  | _, n :: r, h => by
    cases h with
    | cons h1 h2 =>
      cases h1
      rw [rep_lst_ints h2]
      rfl
theorem rep_row {K : PySem.W.Frag} {H : Hp} {bad : Addr → Prop} {v : V} {r : List Int} (h : Rep K H bad v (rowD r)) : ∃ l, v = .ref l ∧ SqT K H l (r.map V.int) := by
  unfold rowD at h
  cases h with
  | tup hs ha => exact ⟨_, rfl, (rep_lst_ints ha) ▸ hs⟩
theorem rep_rows {K : PySem.W.Frag} {H : Hp} {bad : Addr → Prop} : ∀ {ws : List V} {rs : List (List Int)}, DpAll K H ws (rs.map rowD) → RepAll K H bad ws (rs.map rowD)
  | _, [], h => by cases h; exact .nil
  | _, r :: rs, h => by
    cases h with
    | cons h1 h2 =>
      obtain ⟨a, rfl, ha⟩ := dp_row h1
      exact .cons (row_rep ha) (rep_rows h2)
theorem rows_rep {K : PySem.W.Frag} {H : Hp} {bad : Addr → Prop} : ∀ {ws : List V} {rs : List (List Int)}, RepAll K H bad ws (rs.map rowD) → DpAll K H ws (rs.map rowD)
  | _, [], h => by cases h; exact .nil
  | _, r :: rs, h => by
    cases h with
    | cons h1 h2 =>
      obtain ⟨a, rfl, ha⟩ := rep_row h1
      exact .cons (row_dp ha) (rows_rep h2)
theorem foldl_succ {α : Type} (f : α → Nat → α) (a : α) (k : Nat) : (List.range (k + 1)).foldl f a = f ((List.range k).foldl f a) k := by
  rw [List.range_succ, List.foldl_append]
  rfl
theorem plainR_nil (p : Int) (n : Nat) : plainR p n [] = [] := by
  have h : ∀ k, (List.range k).foldl (stepR p) (([] : List (List Int)), ([] : List (List Int))) = ([], []) := by
    intro k
    induction k with
    | zero => rfl
    | succ k ih => rw [foldl_succ, ih]; rfl
  unfold plainR
  rw [h]
def hasR (p : Int) (n : Nat) (rs : List (List Int)) (r : List Int) : Bool := decide ((plainR p n (rs ++ [r])).length = (plainR p n rs).length)
def fldB (p : Nat) : Bool := decide (2 ≤ p) && (List.range p).all fun a => a == 0 || (List.range p).any fun b => a * b % p == 1
theorem fld_of {p : Nat} (h : fldB p = true) : Fld (p : Int) := by
  unfold fldB at h
  rw [Bool.and_eq_true] at h
  obtain ⟨h2, h⟩ := h
  have h2 := of_decide_eq_true h2
  refine ⟨by omega, fun a a1 ap => ?_⟩
  have ha := List.all_eq_true.mp h a.toNat (List.mem_range.mpr (by omega))
  rw [Bool.or_eq_true] at ha
  rcases ha with ha | ha
  · have := eq_of_beq ha
    omega
  · obtain ⟨b, hb, e⟩ := List.any_eq_true.mp ha
    have e := eq_of_beq e
    have hb := List.mem_range.mp hb
    refine ⟨(b : Int), ?_, by omega, ?_⟩
    · cases b with
      | zero => rw [Nat.mul_zero, Nat.zero_mod] at e; cases e
      | succ b => omega
    · have e2 : ((a.toNat * b % p : Nat) : Int) = 1 := by rw [e]; rfl
      rw [Int.natCast_emod, Int.natCast_mul, Int.toNat_of_nonneg (by omega)] at e2
      exact e2
end OC
set_option Elab.async false
set_option linter.all false
set_option maxRecDepth 100000
/-! what the promises of the program's own defs rest on -/
namespace OC
open PySem PySem.Spec PyProof.Rows L2 Lin
theorem less_eq {p : Int} : ∀ (c : Int) (x y : List Int), addR p x (timesR p (p - c) y) = List.zipWith (fun r m => (r - c * m) % p) x y
  | _, [], _ => rfl
  | _, _ :: _, [] => rfl
  | c, a :: x, b :: y => by
    have ih := less_eq (p := p) c x y
    unfold addR timesR at ih ⊢
    rw [List.map_cons, List.zipWith_cons_cons, List.zipWith_cons_cons, ih, Int.add_emod_emod]
    congr 1
    rw [show a + (p - c) * b = (a - c * b) + p * b by grind, Int.add_mul_emod_self_left]
theorem less_zero {p : Int} : ∀ (x y : List Int), x.length = y.length → RowOk p x → List.zipWith (fun r m => (r - 0 * m) % p) x y = x
  | [], _, _, _ => rfl
  | _ :: _, [], e, _ => by cases e
  | a :: x, b :: y, e, h => by
    rw [List.zipWith_cons_cons, less_zero x y (Nat.succ.inj e) fun z hz => h z (List.mem_cons_of_mem _ hz)]
    have := h a List.mem_cons_self
    rw [Int.zero_mul, Int.sub_zero, Int.emod_eq_of_lt this.1 this.2]
theorem ctr_uniq {p a b : Int} (hF : Fld p) (h0 : 1 ≤ a) (h1 : a < p) (b0 : 1 ≤ b) (b1 : b < p) (e : a * b % p = 1) : b = ctr p a := by
  obtain ⟨c0, c1, c2⟩ := ctr_ok hF h0 h1
  generalize ctr p a = c at c0 c1 c2
  have h2 := hF.1
  have e1 : b * (a * c) % p = b := by
    rw [Int.mul_emod, c2, Int.mul_one, Int.emod_emod]
    exact Int.emod_eq_of_lt (by omega) b1
  have e2 : b * (a * c) % p = c := by
    rw [show b * (a * c) = (a * b) * c by grind, Int.mul_emod, e, Int.one_mul, Int.emod_emod]
    exact Int.emod_eq_of_lt c0 c1
  omega
/-- rows in a tuple -/
def RowsAt (K : PySem.W.Frag) (H : Hp) (a : Addr) (rs : List (List Int)) : Prop := ∃ ws, SqT K H a ws ∧ DpAll K H ws (rs.map rowD)
theorem RowsAt.same {K : PySem.W.Frag} {H H' : Hp} {a : Addr} {rs : List (List Int)} (s : Same H H') (h : RowsAt K H a rs) : RowsAt K H' a rs := by
  obtain ⟨ws, h1, h2⟩ := h
  exact ⟨ws, Same.tup s h1, dpAll_same s _ _ h2⟩
theorem rows_len {K : PySem.W.Frag} {H : Hp} {ws : List V} {rs : List (List Int)} (h : DpAll K H ws (rs.map rowD)) : ws.length = rs.length := by
  have := dpAll_len h
  rwa [List.length_map] at this
theorem PFR.fp_lt {p : Int} (hF : Fld p) {n : Nat} {room : List (List Int)} (h : PFR p n room) : ∀ b ∈ room, fpR b < n := by
  obtain ⟨q, rfl, _, hF⟩ := to_q hF
  obtain ⟨ok, bs, pf, e⟩ := (isPF_iff hF).mpr h
  intro b hb
  have : toV (q := q) b ∈ bs.map (·.2) := by rw [e]; exact List.mem_map_of_mem hb
  obtain ⟨c, hc, ec⟩ := List.mem_map.mp this
  have := pf.leads (one_ne (q2 hF)) hc
  rw [ec] at this
  rw [fpR_lead (ok b hb).2 this]
  exact pf.lt c hc
/-- a room of all rows gets no wider -/
theorem plain_full {p : Int} (hF : Fld p) {n : Nat} {rows ts : List (List Int)} (h : RowsOk p n rows) (ht : RowsOk p n ts) (hl : (plainR p n rows).length = n) : plainR p n (rows ++ ts) = plainR p n rows := by
  have hle := plainR_lenle hF (rowsOk_app h ht)
  obtain ⟨q, rfl, _, hF⟩ := to_q hF
  obtain ⟨_, bs, pb, eb⟩ := plainR_pf hF h
  obtain ⟨_, cs, pc, ec⟩ := plainR_pf hF (rowsOk_app h ht)
  have lb := congrArg List.length eb
  have lc := congrArg List.length ec
  rw [List.length_map, List.length_map] at lb lc
  have sub : ∀ x, Spn (bs.map (·.2)) x → Spn (cs.map (·.2)) x := fun x hx => by
    rw [eb] at hx
    rw [ec]
    refine (plainR_mk hF (rowsOk_app h ht) x).mpr ?_
    unfold Mk
    rw [List.map_append]
    exact spn_left ((plainR_mk hF h x).mp hx)
  refine ((plainR_pf hF (rowsOk_app h ht)).uniq hF (plainR_pf hF h) fun x => ?_)
  unfold Mk
  rw [← eb, ← ec]
  exact ⟨fun hx => pb.same_of_len pc (one_ne (q2 hF)) sub (by omega) hx, sub x⟩
theorem dpAll_perm {K : PySem.W.Frag} {H : Hp} {ys xs : List V} (hp : ys.Perm xs) : ∀ {rs : List (List Int)}, DpAll K H xs (rs.map rowD) → ∃ rs' : List (List Int), rs'.Perm rs ∧ DpAll K H ys (rs'.map rowD) := by
  induction hp with
  | nil => exact fun {rs} h => ⟨rs, List.Perm.refl _, h⟩
  | cons x _ ih =>
    intro rs h
    cases rs with
    | nil => cases h
    | cons r rs =>
      cases h with
      | cons h1 h2 =>
        obtain ⟨rs', p, d⟩ := ih h2
        exact ⟨r :: rs', p.cons r, .cons h1 d⟩
  | swap x y l =>
    intro rs h
    match rs, h with
    | [], h => cases h
    | [r], h =>
      cases h with
      | cons h1 h2 => cases h2
    | r1 :: r2 :: rs, h =>
      cases h with
      | cons h1 h2 =>
        cases h2 with
        | cons h2 h3 => exact ⟨r2 :: r1 :: rs, List.Perm.swap _ _ _, .cons h2 (.cons h1 h3)⟩
  | trans _ _ ih1 ih2 =>
    intro rs h
    obtain ⟨r1, p1, d1⟩ := ih2 h
    obtain ⟨r2, p2, d2⟩ := ih1 d1
    exact ⟨r2, p2.trans p1, d2⟩
theorem code_eq (B : Int) : ∀ r : List Int, TS.code B r = codeR B r
  | [] => rfl
  | d :: r => by
    show d * B ^ r.length + TS.code B r = d * B ^ r.length + codeR B r
    rw [code_eq B r]
theorem dpAll_pw {K : PySem.W.Frag} {H : Hp} {B : Int} : ∀ {ys : List V} {rs : List (List Int)}, DpAll K H ys (rs.map rowD) → ys.Pairwise (fun x y => ∀ n m, TupI K H x n → TupI K H y m → TS.code B m ≤ TS.code B n) → rs.Pairwise fun a b => codeR B b ≤ codeR B a
  | _, [], _, _ => List.Pairwise.nil
  | _, r :: rs, h, hp => by
    cases h with
    | @cons y ys _ _ h1 h2 =>
      obtain ⟨p1, p2⟩ := List.pairwise_cons.mp hp
      refine List.pairwise_cons.mpr ⟨fun b hb => ?_, dpAll_pw h2 p2⟩
      obtain ⟨i, hi, rfl⟩ := List.getElem_of_mem hb
      have hi' : i < ys.length := by rw [rows_len h2]; exact hi
      obtain ⟨c, r2, ec, gr, _, hc⟩ := dpAll_row h2 (List.getElem?_eq_getElem hi')
      rw [List.getElem?_eq_getElem hi] at gr
      have er : rs[i] = r2 := Option.some.inj gr
      obtain ⟨a, ea, ha⟩ := dp_row h1
      have := p1 ys[i] (List.getElem_mem hi') r rs[i] ⟨a, ea, ha⟩ ⟨c, ec, by rw [er]; exact hc⟩
      rwa [code_eq, code_eq] at this
theorem hasR_iff {p : Int} (hF : Fld p) {n : Nat} {room : List (List Int)} (h : PFR p n room) {r : List Int} (hr : RowsOk p n [r]) : (leftR p room r).all (fun x => decide (x = 0)) = hasR p n room r := by
  have e := PFR.left_has hF h hr
  unfold hasR
  by_cases c : (plainR p n (room ++ [r])).length = (plainR p n room).length
  · rw [decide_eq_true c, List.all_eq_true]
    exact fun x hx => decide_eq_true (e.mpr c x hx)
  · rw [decide_eq_false c, Bool.eq_false_iff]
    intro z
    exact c (e.mp fun x hx => of_decide_eq_true (List.all_eq_true.mp z x hx))
theorem rowOk_getD {p : Int} {r : List Int} {n : Nat} (h : r.length = n ∧ ∀ x ∈ r, 0 ≤ x ∧ x < p) {j : Nat} (hj : j < n) : 0 ≤ r.getD j 0 ∧ r.getD j 0 < p := by
  rw [gd_lt (by omega)]
  exact h.2 _ (List.getElem_mem _)
theorem at_row {r : List Int} {j : Nat} (h : j < r.length) : atI (r.map V.int) (j : Int) = some (.int (r.getD j 0)) := at_of (j := j) rfl (by rw [List.getElem?_map, List.getElem?_eq_getElem h, gd_lt h]; rfl)
theorem rowsOk_one {p : Int} {n : Nat} {r : List Int} (h : r.length = n ∧ ∀ x ∈ r, 0 ≤ x ∧ x < p) : RowsOk p n [r] := fun x hx => by
  have : x = r := by simpa using hx
  rw [this]
  exact h
theorem leftR_take {p : Int} {room : List (List Int)} {r : List Int} {i : Nat} {b : List Int} (h : room[i]? = some b) : leftR p (room.take (i + 1)) r = lessR p (leftR p (room.take i) r) b (fpR b) := by
  unfold leftR
  rw [List.take_add_one, h, List.foldl_append]
  rfl
theorem leftR_ok {p : Int} (hp : 0 < p) {n : Nat} : ∀ (room : List (List Int)) (r : List Int), RowsOk p n room → RowsOk p n [r] → RowsOk p n [leftR p room r]
  | [], _, _, h => h
  | b :: room, r, h1, h2 => leftR_ok hp room _ (fun x hx => h1 x (List.mem_cons_of_mem _ hx)) (rowsOk_one (less_row hp (h2 r List.mem_cons_self).1 (h1 b List.mem_cons_self).1 _))
end OC
set_option Elab.async false
set_option linter.all false
set_option maxRecDepth 100000
/-! rooms as data; comprehensions of plain values -/
namespace OC
open PySem PySem.Spec PyProof.Rows L2 Lin
abbrev Bad (d c : Addr) : Addr → Prop := fun a => a = d ∨ a = c
theorem Deck.fresh {H : Hp} {d c p : Addr} {t : Int} (D : Deck H d c t) (n : H p = none) : ¬ Bad d c p := by
  obtain ⟨hd, ⟨cells, h1, h2⟩, _, t0⟩ := D
  rintro (z | z)
  · subst z; rw [hd] at n; cases n
  · subst z; rw [h1] at n; cases n
theorem Stays.kept2 {bad : Addr → Prop} {d c : Addr} {t : Int} {H H' : Hp} (D : Deck H d c t) (k : Kept d c H H') (bd : bad d) (bc : bad c) : Stays bad H H' := by
  have s := Stays.kept D k
  refine ⟨s.t, s.d, fun a xs h n => k a _ h (fun z => n (by rw [z]; exact bd)) (fun z => n (by rw [z]; exact bc))⟩
theorem Deck.mut {H : Hp} {d c B : Addr} {t : Int} {o : HO} (D : Deck H d c t) (b : ¬ Bad d c B) : Deck (upd H B o) d c t := by
  obtain ⟨hd, ⟨cells, h1, h2⟩, n, t0⟩ := D
  exact ⟨by rw [upd_ne (fun z => b (.inl z.symm))]; exact hd, ⟨cells, by rw [upd_ne (fun z => b (.inr z.symm))]; exact h1, h2⟩, n, t0⟩
theorem Kept.mut {H H' : Hp} {d c B : Addr} {o : HO} (k : Kept d c H H') (n : H B = none) : Kept d c H (upd H' B o) := fun b x h n1 n2 => by
  rw [upd_ne (ne_of_none h n)]
  exact k b x h n1 n2
theorem Kept.rows {K : PySem.W.Frag} {H H' : Hp} {d c : Addr} {t : Int} {a : Addr} {rs : List (List Int)} (D : Deck H d c t) (k : Kept d c H H') (h : RowsAt K H a rs) : RowsAt K H' a rs := by
  obtain ⟨ws, h1, h2⟩ := h
  exact ⟨ws, Kept.tup D k h1, dpAll_tk (Tk.kept D k) _ _ (noL_rows rs) h2⟩
/-! ### rooms as data -/
theorem isRow_row {p : Int} {n : Nat} {r : List Int} (h : r.length = n ∧ ∀ x ∈ r, 0 ≤ x ∧ x < p) : isRowD p n (rowD r) = true := by
  show (decide (((r.map PyData.int).length : Int) = n) && (r.map PyData.int).all (restD p)) = true
  rw [List.length_map, h.1, decide_eq_true rfl, Bool.true_and, List.all_map, List.all_eq_true]
  intro x hx
  show (decide (0 ≤ x) && decide (x < p)) = true
  have := h.2 x hx
  rw [decide_eq_true this.1, decide_eq_true this.2]
  rfl
theorem eqvAll_ints : ∀ a b : List Int, PyData.eqvAll (a.map PyData.int) (b.map PyData.int) = decide (a = b)
  | [], [] => by simp [PyData.eqvAll]
  | [], _ :: _ => by simp [PyData.eqvAll]
  | _ :: _, [] => by simp [PyData.eqvAll]
  | x :: a, y :: b => by
    rw [List.map_cons, List.map_cons, PyData.eqvAll, eqvAll_ints a b]
    by_cases h : x = y
    · subst h
      simp [PyData.eqv]
    · simp [PyData.eqv, h]
theorem eqv_row_dec (a b : List Int) : PyData.eqv (rowD a) (rowD b) = decide (a = b) := by
  unfold rowD
  rw [PyData.eqv, eqvAll_ints]
theorem eqvAll_rows : ∀ a b : List (List Int), PyData.eqvAll (a.map rowD) (b.map rowD) = decide (a = b)
  | [], [] => by simp [PyData.eqvAll]
  | [], _ :: _ => by simp [PyData.eqvAll]
  | _ :: _, [] => by simp [PyData.eqvAll]
  | x :: a, y :: b => by
    rw [List.map_cons, List.map_cons, PyData.eqvAll, eqvAll_rows a b, eqv_row_dec]
    by_cases h : x = y
    · subst h
      simp
    · simp [h]
theorem eqv_rows_dec (a b : List (List Int)) : PyData.eqv (.tuple (a.map rowD)) (.tuple (b.map rowD)) = decide (a = b) := by
  rw [PyData.eqv, eqvAll_rows]
end OC
set_option Elab.async false
set_option linter.all false
set_option maxRecDepth 100000
/-! lists of things, filled while the deck is drawn from -/
namespace OC
open PySem PySem.Spec PyProof.Rows L2
structure Th (K : PySem.W.Frag) (H : Hp) (d c M : Addr) (vs : List V) (es : List PyData) : Prop where
  m : H M = some (.lst vs)
  nb : ¬ Bad d c M
  r : RepAll K H (fun a => Bad d c a ∨ a = M) vs es
section
variable {K : PySem.W.Frag} {H H' : Hp} {d c M : Addr} {t : Int} {vs : List V} {es : List PyData}
theorem Th.same (h : Th K H d c M vs es) (s : Same H H') : Th K H' d c M vs es := ⟨s _ _ h.m, h.nb, repAll_stays (Stays.of s) _ _ h.r⟩
theorem Th.kept (h : Th K H d c M vs es) (D : Deck H d c t) (k : Kept d c H H') : Th K H' d c M vs es :=
  ⟨k _ _ h.m (fun z => h.nb (.inl z)) (fun z => h.nb (.inr z)), h.nb, repAll_stays (Stays.kept2 D k (.inl (.inl rfl)) (.inl (.inr rfl))) _ _ h.r⟩
theorem Th.push (h : Th K H d c M vs es) {v : V} {e : PyData} (r : Rep K H (fun a => Bad d c a ∨ a = M) v e) : Th K (upd H M (.lst (vs ++ [v]))) d c M (vs ++ [v]) (es ++ [e]) := by
  have st : Stays (fun a => Bad d c a ∨ a = M) H (upd H M (.lst (vs ++ [v]))) := upd_stays (Stays.of (Same.refl H)) h.m (.inr rfl)
  exact ⟨upd_same, h.nb, repAll_append (repAll_stays st _ _ h.r) (.cons (rep_stays st _ _ r) .nil)⟩
theorem Th.new (D : Deck H d c t) (n : H M = none) (r : RepAll K H (Bad d c) vs es) : Th K (upd H M (.lst vs)) d c M vs es :=
  ⟨upd_same, D.fresh n, repAll_stays (Stays.of (same_upd n)) _ _ (repAll_fresh n _ _ r)⟩
theorem Th.len (h : Th K H d c M vs es) : vs.length = es.length := repAll_len h.r
end
end OC
set_option Elab.async false
set_option linter.all false
set_option maxRecDepth 100000
/-! across: the program's own rows, and what they are -/
namespace OC
open PySem PySem.Spec PyProof.Rows L2 Lin
def crossF (p : Int) (room : List (List Int)) (j : Nat) (r0 : List Int) : List Int := room.foldl (fun r b => r.set (fpR b) ((-(b.getD j 0)) % p)) r0
def crossR (p : Int) (n : Nat) (room : List (List Int)) (j : Nat) : List Int := crossF p room j ((List.replicate n 0).set j 1)
def freesR (n : Nat) (room : List (List Int)) : List Nat := (List.range n).filter fun j => !decide (j ∈ room.map fpR)
def acrossR (p : Int) (n : Nat) (room : List (List Int)) : List (List Int) := plainR p n ((freesR n room).map (crossR p n room))
theorem crossF_len (p : Int) (j : Nat) : ∀ (room : List (List Int)) (r0 : List Int), (crossF p room j r0).length = r0.length
  | [], _ => rfl
  | b :: room, r0 => by
    show (crossF p room j (r0.set (fpR b) _)).length = _
    rw [crossF_len p j room, List.length_set]
theorem crossF_ok {p : Int} (hp : 0 < p) (j : Nat) : ∀ (room : List (List Int)) (r0 : List Int), (∀ x ∈ r0, 0 ≤ x ∧ x < p) → ∀ x ∈ crossF p room j r0, 0 ≤ x ∧ x < p
  | [], _, h => h
  | b :: room, r0, h => crossF_ok hp j room _ fun x hx => by
    rcases List.mem_or_eq_of_mem_set hx with hx | rfl
    · exact h x hx
    · exact ⟨Int.emod_nonneg _ (by omega), Int.emod_lt_of_pos _ hp⟩
theorem crossR_ok {p : Int} (hp : 2 ≤ p) (n : Nat) (room : List (List Int)) (j : Nat) : (crossR p n room j).length = n ∧ ∀ x ∈ crossR p n room j, 0 ≤ x ∧ x < p := by
  refine ⟨?_, crossF_ok (by omega) j room _ fun x hx => ?_⟩
  · unfold crossR
    rw [crossF_len, List.length_set, List.length_replicate]
  · rcases List.mem_or_eq_of_mem_set hx with hx | rfl
    · rw [List.eq_of_mem_replicate hx]
      omega
    · omega
section
variable {q : Nat} [NeZero q]
theorem getD_set {r : List Int} {k : Nat} {v : Int} (hk : k < r.length) (i : Nat) : (r.set k v).getD i 0 = if i = k then v else r.getD i 0 := by
  by_cases h : i = k
  · subst h
    rw [if_pos rfl, gd_lt (by rw [List.length_set]; exact hk), List.getElem_set_self]
  · rw [if_neg h]
    by_cases hi : i < r.length
    · rw [gd_lt (by rw [List.length_set]; exact hi), List.getElem_set_ne (fun z => h z.symm), gd_lt hi]
    · rw [gd_ge (by rw [List.length_set]; omega), gd_ge (by omega)]
theorem cF_neg (x : Int) : cF (q := q) (-x) = -cF x := by
  have h := cF_sub (q := q) 0 x
  rw [Int.zero_sub, cF_zero] at h
  rw [h]
  grind
theorem crossF_sim {n : Nat} (j : Nat) : ∀ (room : List (List Int)) (bs : List (Nat × Vec q)) (r0 : List Int), RowsOk q n room → r0.length = n → bs.map (·.2) = room.map (toV (q := q)) → (∀ b ∈ bs, Lead b.2 b.1 ∧ b.1 < n) → bs.Pairwise (fun a b => a.1 < b.1) → (∀ b ∈ bs, r0.getD b.1 0 = 0) →
    toV (q := q) (crossF q room j r0) = fun i => toV r0 i + (crossV bs j i - unitV j i)
  | [], [], r0, _, _, _, _, _, _ => by
    funext i
    show toV r0 i = toV r0 i + (unitV j i - unitV j i)
    grind
  | [], _ :: _, _, _, _, e, _, _, _ => by cases e
  | _ :: _, [], _, _, _, e, _, _, _ => by cases e
  | c :: room, b :: bs, r0, h1, h2, e, hl, hi, hz => by
    rw [List.map_cons, List.map_cons] at e
    obtain ⟨e1, e2⟩ := List.cons.inj e
    obtain ⟨i1, i2⟩ := List.pairwise_cons.mp hi
    have hc := h1 c List.mem_cons_self
    have hb := hl b List.mem_cons_self
    have fj : fpR c = b.1 := fpR_lead (q := q) hc.2 (by rw [← e1]; exact hb.1)
    have hlt : fpR c < r0.length := by rw [fj, h2]; exact hb.2
    have ih := crossF_sim j room bs (r0.set (fpR c) ((-(c.getD j 0)) % q)) (fun x hx => h1 x (List.mem_cons_of_mem _ hx)) (by rw [List.length_set]; exact h2) e2 (fun x hx => hl x (List.mem_cons_of_mem _ hx)) i2 fun x hx => by
      rw [getD_set hlt, if_neg (by rw [fj]; have := i1 x hx; omega)]
      exact hz x (List.mem_cons_of_mem _ hx)
    show toV (q := q) (crossF q room j (r0.set (fpR c) ((-(c.getD j 0)) % q))) = _
    rw [ih]
    funext i
    show cF ((r0.set (fpR c) ((-(c.getD j 0)) % q)).getD i 0) + (crossV bs j i - unitV j i) = toV r0 i + ((-(b.2 j)) * unitV b.1 i + crossV bs j i - unitV j i)
    have ej : b.2 j = cF (c.getD j 0) := congrFun e1 j
    have hz0 := hz b List.mem_cons_self
    rw [getD_set hlt, fj, ej]
    unfold unitV
    by_cases hib : i = b.1
    · subst hib
      rw [if_pos rfl, if_pos rfl, cF_mod, cF_neg]
      show -cF (c.getD j 0) + _ = cF (r0.getD b.1 0) + _
      rw [hz0, cF_zero]
      grind
    · rw [if_neg hib, if_neg hib]
      show cF (r0.getD i 0) + _ = cF (r0.getD i 0) + _
      grind
theorem firsts_eq {n : Nat} : ∀ (room : List (List Int)) (bs : List (Nat × Vec q)), RowsOk q n room → bs.map (·.2) = room.map (toV (q := q)) → (∀ b ∈ bs, Lead b.2 b.1) → room.map fpR = bs.map (·.1)
  | [], [], _, _, _ => rfl
  | [], _ :: _, _, e, _ => by cases e
  | _ :: _, [], _, e, _ => by cases e
  | c :: room, b :: bs, h1, e, hl => by
    rw [List.map_cons, List.map_cons] at e
    obtain ⟨e1, e2⟩ := List.cons.inj e
    rw [List.map_cons, List.map_cons, firsts_eq room bs (fun x hx => h1 x (List.mem_cons_of_mem _ hx)) e2 fun x hx => hl x (List.mem_cons_of_mem _ hx), fpR_lead (q := q) (h1 c List.mem_cons_self).2 (by rw [← e1]; exact hl b List.mem_cons_self)]
/-- the rows by the free places, as vectors -/
theorem IsPF.cross (hF : Fld (q : Int)) {n : Nat} {room : List (List Int)} (h : IsPF q n room) : ∃ bs : List (Nat × Vec q), PF n bs ∧ bs.map (·.2) = room.map (toV (q := q)) ∧ ((freesR n room).map (crossR q n room)).map (toV (q := q)) = (frees n bs).map (crossV bs) := by
  obtain ⟨ok, bs, pf, e⟩ := h
  have ld : ∀ b ∈ bs, Lead b.2 b.1 := fun b hb => pf.leads (one_ne (q2 hF)) hb
  have ef := firsts_eq room bs ok e ld
  refine ⟨bs, pf, e, ?_⟩
  have e1 : freesR n room = frees n bs := by
    unfold freesR frees isFirst
    rw [ef]
  rw [e1, List.map_map]
  apply List.map_congr_left
  intro j hj
  obtain ⟨jn, jf⟩ := mem_frees.mp hj
  have hz : ∀ b ∈ bs, ((List.replicate n (0 : Int)).set j 1).getD b.1 0 = 0 := fun b hb => by
    rw [getD_set (by rw [List.length_replicate]; exact jn), if_neg (jf b hb), gd_lt (by rw [List.length_replicate]; exact pf.lt b hb), List.getElem_replicate]
  show toV (q := q) (crossF q room j ((List.replicate n 0).set j 1)) = crossV bs j
  rw [crossF_sim (n := n) j room bs _ ok (by rw [List.length_set, List.length_replicate]) e (fun b hb => ⟨ld b hb, pf.lt b hb⟩) pf.inc hz]
  funext i
  have eu : toV (q := q) ((List.replicate n (0 : Int)).set j 1) i = unitV j i := by
    show cF (((List.replicate n (0 : Int)).set j 1).getD i 0) = _
    rw [getD_set (by rw [List.length_replicate]; exact jn)]
    unfold unitV
    by_cases hij : i = j
    · rw [if_pos hij, if_pos hij, cF_one (q2 hF)]
    · rw [if_neg hij, if_neg hij]
      by_cases hi : i < n
      · rw [gd_lt (by rw [List.length_replicate]; exact hi), List.getElem_replicate, cF_zero]
      · rw [gd_ge (by rw [List.length_replicate]; omega), cF_zero]
  rw [eu]
  grind
theorem free_rows {p : Int} (hp : 2 ≤ p) (n : Nat) (room : List (List Int)) : RowsOk p n ((freesR n room).map (crossR p n room)) := fun r hr => by
  obtain ⟨j, _, rfl⟩ := List.mem_map.mp hr
  exact crossR_ok hp n room j
theorem acrossR_perp (hF : Fld (q : Int)) {n : Nat} {room : List (List Int)} (h : IsPF q n room) (w : Vec q) : Mk q (acrossR q n room) w ↔ Perp n (Mk q room) w := by
  obtain ⟨bs, pf, e, ec⟩ := h.cross hF
  unfold acrossR
  rw [plainR_mk hF (free_rows hF.1 n room)]
  unfold Mk
  rw [ec, ← e]
  exact pf.perp_spn w
theorem good (hF : Fld (q : Int)) (n : Nat) : Good (invF (q := q)) n := ⟨one_ne (q2 hF), invF_ok hF⟩
theorem acrossR_pf (hF : Fld (q : Int)) (n : Nat) (room : List (List Int)) : IsPF q n (acrossR q n room) := plainR_pf hF (free_rows hF.1 n room)
/-- a row is of the room just where it is worth 0 at all worlds across -/
theorem perp_across (hF : Fld (q : Int)) {n : Nat} {room : List (List Int)} (h : IsPF q n room) (x : Vec q) : Perp n (Mk q (acrossR q n room)) x ↔ Mk q room x := by
  obtain ⟨_, bs, pb, eb⟩ := id h
  obtain ⟨_, cs, pc, ec⟩ := acrossR_pf hF n room
  have := (good hF n).perp_perp pb pc (fun w => by
    have := acrossR_perp hF h w
    unfold Mk at this
    rwa [← eb, ← ec] at this) x
  unfold Mk
  rwa [← eb, ← ec]
/-! ### worth -/
end
end OC
set_option Elab.async false
set_option linter.all false
set_option maxRecDepth 100000
set_option maxHeartbeats 2000000
/-! repr of any thing, lists with dicts too: the modules' own dict is none of them -/
set_option Elab.async false
set_option linter.all false
set_option maxRecDepth 100000
/-! how rows are made: marked rows, taken off -/
namespace Lin
section
variable {p : Nat} [NeZero p]
theorem lin_snoc : ∀ (fs : List (Fin p)) (vs : List (Vec p)) (c : Fin p) (v : Vec p), fs.length = vs.length → lin (fs ++ [c]) (vs ++ [v]) = addV (lin fs vs) (mulV c v)
  | [], [], c, v, _ => by
    show addV (mulV c v) zeroV = addV zeroV (mulV c v)
    funext i
    show c * v i + 0 = 0 + c * v i
    grind
  | [], _ :: _, _, _, e => by cases e
  | _ :: _, [], _, _, e => by cases e
  | f :: fs, u :: us, c, v, e => by
    show addV (mulV f u) (lin (fs ++ [c]) (us ++ [v])) = addV (addV (mulV f u) (lin fs us)) (mulV c v)
    rw [lin_snoc fs us c v (Nat.succ.inj e)]
    funext i
    show f * u i + (lin fs us i + c * v i) = f * u i + lin fs us i + c * v i
    grind
/-- no row is made by those ahead of it -/
def Free (vs : List (Vec p)) : Prop := ∀ k v, vs[k]? = some v → ¬ Spn (vs.take k) v
theorem Free.init {vs : List (Vec p)} {v : Vec p} (h : Free (vs ++ [v])) : Free vs ∧ ¬ Spn vs v := by
  constructor
  · intro k u hu
    have hk : k < vs.length := (List.getElem?_eq_some_iff.mp hu).1
    have := h k u (by rw [List.getElem?_append_left hk]; exact hu)
    rwa [List.take_append_of_le_length (by omega)] at this
  · have := h vs.length v (by rw [List.getElem?_append_right (Nat.le_refl _), Nat.sub_self]; rfl)
    rwa [List.take_append_of_le_length (Nat.le_refl _), List.take_length] at this
theorem Free.zero (inv : Fin p → Fin p) (hinv : ∀ a : Fin p, a ≠ 0 → inv a * a = 1) : ∀ (m : Nat) (vs : List (Vec p)) (fs : List (Fin p)), vs.length = m → Free vs → fs.length = vs.length → lin fs vs = zeroV → ∀ f ∈ fs, f = 0
  | 0, vs, fs, hm, _, hl, _ => by
    intro f hf
    rw [hm] at hl
    rw [List.length_eq_zero_iff.mp hl] at hf
    cases hf
  | m + 1, vs, fs, hm, hF, hl, hz => by
    obtain ⟨vs', v, rfl⟩ : ∃ vs' v, vs = vs' ++ [v] := by
      rcases List.eq_nil_or_concat vs with h | ⟨a, b, h⟩
      · rw [h] at hm; cases hm
      · exact ⟨a, b, by rw [h]; exact List.concat_eq_append⟩
    obtain ⟨fs', c, rfl⟩ : ∃ fs' c, fs = fs' ++ [c] := by
      rcases List.eq_nil_or_concat fs with h | ⟨a, b, h⟩
      · rw [h, hm] at hl; cases hl
      · exact ⟨a, b, by rw [h]; exact List.concat_eq_append⟩
    rw [List.length_append, List.length_append] at hl
    have hl' : fs'.length = vs'.length := by simpa using hl
    obtain ⟨h1, h2⟩ := hF.init
    rw [lin_snoc fs' vs' c v hl'] at hz
    have c0 : c = 0 := by
      apply Classical.byContradiction
      intro hc
      apply h2
      have hS := spn_sub vs'
      have h3 : Spn vs' (lin fs' vs') := ⟨fs', rfl⟩
      have h4 := hS.mul (-(inv c)) h3
      have e : v = mulV (-(inv c)) (lin fs' vs') := by
        funext i
        have e1 := congrFun hz i
        have e1 : lin fs' vs' i + c * v i = 0 := e1
        have e2 := hinv c hc
        show v i = -(inv c) * lin fs' vs' i
        have e3 : lin fs' vs' i = -(c * v i) := by grind
        rw [e3]
        have : inv c * c * v i = v i := by rw [e2]; grind
        grind
      rw [e]
      exact h4
    have hz' : lin fs' vs' = zeroV := by
      funext i
      have e1 := congrFun hz i
      have e1 : lin fs' vs' i + c * v i = 0 := e1
      rw [c0] at e1
      show lin fs' vs' i = 0
      grind
    intro f hf
    rcases List.mem_append.mp hf with hf | hf
    · exact Free.zero inv hinv m vs' fs' (by rw [List.length_append] at hm; simpa using hm) h1 hl' hz' f hf
    · have : f = c := by simpa using hf
      rw [this]
      exact c0
end
end Lin
namespace OC
open PySem PySem.Spec PyProof.Rows L2 Lin
theorem row_noughts' {p : Int} (hp : 0 < p) (n : Nat) : (List.replicate n (0 : Int)).length = n ∧ ∀ x ∈ List.replicate n (0 : Int), 0 ≤ x ∧ x < p := ⟨List.length_replicate, fun x hx => by
  rw [List.eq_of_mem_replicate hx]
  omega⟩
end OC
set_option Elab.async false
set_option linter.all false
set_option maxRecDepth 100000
set_option maxHeartbeats 2000000
set_option Elab.async false
set_option linter.all false
set_option maxRecDepth 100000
set_option maxHeartbeats 4000000
/-! the text of a tuple of rows tells the rows -/
set_option Elab.async false
set_option linter.all false
set_option maxRecDepth 100000
set_option maxHeartbeats 4000000
/-! what rows make, by p -/
namespace OC
open PySem PySem.Spec PyProof.Rows L2 Lin
/-- the rows make the row -/
def InR (p : Int) (rs : List (List Int)) (r : List Int) : Prop := ∀ (q : Nat) (_ : NeZero q), p = (q : Int) → Mk q rs (toV (q := q) r)
theorem InR.mem {p : Int} {rs : List (List Int)} {r : List Int} (h : r ∈ rs) : InR p rs r := fun q _ _ => spn_mem (List.mem_map_of_mem h)
theorem InR.mono {p : Int} {rs ts : List (List Int)} {r : List Int} (h : ∀ x ∈ rs, InR p ts x) (hr : InR p rs r) : InR p ts r := fun q z e =>
  spn_sub_of (fun v hv => by
    obtain ⟨x, mx, rfl⟩ := List.mem_map.mp hv
    exact h x mx q z e) (hr q z e)
theorem hasR_in {p : Int} (hF : Fld p) {n : Nat} {rs : List (List Int)} {r : List Int} (h : RowsOk p n rs) (hr : RowsOk p n [r]) : hasR p n rs r = true ↔ InR p rs r := by
  obtain ⟨q, rfl, z, hq⟩ := to_q hF
  unfold hasR
  rw [decide_eq_true_iff, plainR_has hF h hr]
  constructor
  · intro hm q' z' e
    have : q = q' := by omega
    subst this
    exact hm
  · intro hm
    exact hm q z rfl
theorem plain_same {p : Int} (hF : Fld p) {n : Nat} {one other : List (List Int)} (h1 : RowsOk p n one) (h2 : RowsOk p n other) (a : ∀ r ∈ one, InR p other r) (b : ∀ r ∈ other, InR p one r) : plainR p n one = plainR p n other := by
  obtain ⟨q, rfl, z, hq⟩ := to_q hF
  refine plainR_congr hF h1 h2 fun x => ⟨fun hx => ?_, fun hx => ?_⟩
  · exact spn_sub_of (fun v hv => by
      obtain ⟨y, my, rfl⟩ := List.mem_map.mp hv
      exact a y my q z rfl) hx
  · exact spn_sub_of (fun v hv => by
      obtain ⟨y, my, rfl⟩ := List.mem_map.mp hv
      exact b y my q z rfl) hx
theorem plain_one_more {p : Int} (hF : Fld p) {n : Nat} {rs : List (List Int)} {r : List Int} (h : RowsOk p n rs) (hr : RowsOk p n [r]) : (plainR p n (rs ++ [r])).length = (plainR p n rs).length + (if hasR p n rs r = true then 0 else 1) := by
  by_cases hh : hasR p n rs r = true
  · rw [if_pos hh]
    exact of_decide_eq_true hh
  · rw [if_neg hh]
    obtain ⟨q, rfl, z, hq⟩ := to_q hF
    refine plainR_more hF h hr fun hm => hh ?_
    unfold hasR
    rw [decide_eq_true_iff, plainR_has hF h hr]
    exact hm
end OC
set_option Elab.async false
set_option linter.all false
set_option maxRecDepth 100000
set_option maxHeartbeats 4000000
/-! a display of one pair whose key is a tuple -/
set_option Elab.async false
set_option linter.all false
set_option maxRecDepth 100000
set_option maxHeartbeats 4000000
/-! dicts whose keys are rows; all rows that rows make -/
namespace OC
open PySem PySem.Spec PyProof.Rows L2 Lin
theorem units1 {k : Nat} {A : Around} (r : Room k A) : A.units + 1 < cLine := by have := r.un; omega
end OC
set_option Elab.async false
set_option linter.all false
set_option maxRecDepth 100000
set_option maxHeartbeats 4000000
/-! lists of rows that stand by themselves; all rows -/
namespace OC
open PySem PySem.Spec PyProof.Rows L2
inductive TAll (H : Hp) : List V → List (List Int) → Prop
  | nil : TAll H [] []
  | cons {b : Addr} {g : List Int} {vs : List V} {gs : List (List Int)} : H b = some (.tup (g.map V.int)) → TAll H vs gs → TAll H (.ref b :: vs) (g :: gs)
theorem TAll.same {H H' : Hp} (s : Same H H') : ∀ {vs : List V} {gs : List (List Int)}, TAll H vs gs → TAll H' vs gs
  | _, _, .nil => .nil
  | _, _, .cons h t => .cons (s _ _ h) (t.same s)
theorem TAll.app {H : Hp} : ∀ {vs us : List V} {gs hs : List (List Int)}, TAll H vs gs → TAll H us hs → TAll H (vs ++ us) (gs ++ hs)
  | _, _, _, _, .nil, h => h
  | _, _, _, _, .cons h t, h2 => .cons h (t.app h2)
theorem TAll.len {H : Hp} : ∀ {vs : List V} {gs : List (List Int)}, TAll H vs gs → vs.length = gs.length
  | _, _, .nil => rfl
  | _, _, .cons _ t => by rw [List.length_cons, List.length_cons, t.len]
theorem TAll.get {H : Hp} : ∀ {vs : List V} {gs : List (List Int)} {i : Nat} {v : V}, TAll H vs gs → vs[i]? = some v → ∃ b g, v = .ref b ∧ gs[i]? = some g ∧ H b = some (.tup (g.map V.int))
  | _, _, _, _, .nil, h => by simp at h
  | _, _, 0, _, .cons (b := b) (g := g) h t, e => by cases e; exact ⟨b, g, rfl, rfl, h⟩
  | _, _, i + 1, v, .cons h t, e => t.get (i := i) (v := v) e
def nzsR (r : List Int) (k : Nat) : List Nat := (List.range k).filter fun i => decide (r.getD i 0 ≠ 0)
theorem nzs_head {r : List Int} (h : fpR r < r.length) : (nzsR r r.length)[0]? = some (fpR r) := by
  rw [← List.head?_eq_getElem?]
  unfold nzsR
  rw [List.head?_filter, List.find?_range_eq_some]
  exact ⟨decide_eq_true (fpR_at h), List.mem_range.mpr h, fun j hj => by
    rw [decide_eq_false (by rw [fpR_low hj]; simp)]
    rfl⟩
theorem TAll.mut {H : Hp} {D : Addr} {xs : List V} {o : HO} (e : H D = some (.lst xs)) : ∀ {vs : List V} {gs : List (List Int)}, TAll H vs gs → TAll (upd H D o) vs gs
  | _, _, .nil => .nil
  | _, _, .cons h t => .cons (by rw [upd_ne (fun z => by rw [z, e] at h; cases h)]; exact h) (t.mut e)
end OC
set_option Elab.async false
set_option linter.all false
set_option maxRecDepth 100000
set_option maxHeartbeats 4000000
/-! min and max of a tuple of ints -/
set_option Elab.async false
set_option linter.all false
set_option maxRecDepth 100000
set_option maxHeartbeats 4000000
/-! what is left of a row -/
namespace OC
open PySem PySem.Spec PyProof.Rows L2 Lin
theorem left_at {p : Int} (hF : Fld p) {n : Nat} {room : List (List Int)} (h : PFR p n room) {r : List Int} (hr : RowsOk p n [r]) {c : List Int} (hc : c ∈ room) : (leftR p room r).getD (fpR c) 0 = 0 := by
  obtain ⟨q, rfl, z, hF⟩ := to_q hF
  obtain ⟨bs, pf, e, ok, et⟩ := ((isPF_iff hF).mpr h).left hF hr
  refine (toV_eq0 (q := q) (ok _ List.mem_cons_self).2 _).mp ?_
  have m : toV (q := q) c ∈ bs.map (·.2) := by rw [e]; exact List.mem_map_of_mem hc
  obtain ⟨b, mb, eb⟩ := List.mem_map.mp m
  have fj : fpR c = b.1 := fpR_lead (q := q) (h.1 c hc).2 (by rw [← eb]; exact pf.leads (one_ne (q2 hF)) mb)
  rw [et, fj]
  exact Lin.left_at pf _ mb
theorem noughts_iff {r : List Int} {n : Nat} (h : r.length = n) : r = List.replicate n 0 ↔ ∀ x ∈ r, x = 0 := by
  rw [List.eq_replicate_iff]
  exact ⟨fun z => z.2, fun z => ⟨h, z⟩⟩
theorem left_iff {p : Int} (hF : Fld p) {n : Nat} {room : List (List Int)} (h : PFR p n room) {r : List Int} (hr : RowsOk p n [r]) : decide (leftR p room r = List.replicate n 0) = hasR p n room r := by
  have l := (PFR.left_ok hF h hr _ List.mem_cons_self).1
  have e := PFR.left_has hF h hr
  unfold hasR
  rw [decide_eq_decide, noughts_iff l]
  exact e
end OC
namespace OC
theorem InR.plain {p : Int} (hF : Fld p) {n : Nat} {rs : List (List Int)} (h : RowsOk p n rs) {r : List Int} : InR p (plainR p n rs) r ↔ InR p rs r := ⟨fun hx q z e => by
    subst e
    exact (plainR_mk hF h _).mp (hx q z rfl), fun hx q z e => by
    subst e
    exact (plainR_mk hF h _).mpr (hx q z rfl)⟩
theorem hasR_plain {p : Int} (hF : Fld p) {n : Nat} {rs : List (List Int)} (h : RowsOk p n rs) {r : List Int} (hr : RowsOk p n [r]) : hasR p n (plainR p n rs) r = true ↔ InR p rs r := by
  rw [hasR_in hF (PFR.of_plain hF h).1 hr, InR.plain hF h]
end OC
set_option Elab.async false
set_option linter.all false
set_option maxRecDepth 100000
set_option maxHeartbeats 4000000
/-! rows and lists of them: what laws over rooms share -/
namespace OC
open PySem PySem.Spec PyProof.Rows L2
section
variable {K : PySem.W.Frag} {H : Hp} {bad : Addr → Prop}
theorem repAll_rows : ∀ {ws : List V} {rs : List (List Int)}, RepAll K H bad ws (rs.map rowD) → DpAll K H ws (rs.map rowD)
  | _, [], h => by cases h; exact .nil
  | _, r :: rs, h => by
    cases h with
    | cons h1 h2 =>
      obtain ⟨l, rfl, hl⟩ := rep_row h1
      exact .cons (row_dp hl) (repAll_rows (rs := rs) h2)
theorem RowsAt.dp {a : Addr} {rs : List (List Int)} (h : RowsAt K H a rs) : Dp K H (.ref a) (.tuple (rs.map rowD)) := by
  obtain ⟨ws, h1, h2⟩ := h
  exact .tup h1 h2
end
end OC
set_option Elab.async false
set_option linter.all false
set_option maxRecDepth 100000
set_option maxHeartbeats 4000000
/-! rooms joined and shared -/
namespace OC
open PySem PySem.Spec PyProof.Rows L2 Lin
def joinR (p : Int) (n : Nat) (one other : List (List Int)) : List (List Int) := plainR p n (one ++ other)
def meetR (p : Int) (n : Nat) (one other : List (List Int)) : List (List Int) := acrossR p n (joinR p n (acrossR p n one) (acrossR p n other))
section
variable {p : Int} {n : Nat} {one other : List (List Int)}
theorem PFR.ext (hF : Fld p) (h1 : PFR p n one) (h2 : PFR p n other) (a : ∀ r ∈ one, InR p other r) (b : ∀ r ∈ other, InR p one r) : one = other := by
  have := plain_same hF h1.1 h2.1 a b
  rw [h1.2, h2.2] at this
  exact this
theorem meet_mk {q : Nat} [NeZero q] (hF : Fld (q : Int)) (h1 : PFR q n one) (h2 : PFR q n other) (x : Vec q) : Mk q (meetR q n one other) x ↔ Mk q one x ∧ Mk q other x := by
  have i1 := (isPF_iff hF).mpr h1
  have i2 := (isPF_iff hF).mpr h2
  have ja : RowsOk q n (acrossR q n one ++ acrossR q n other) := rowsOk_app (acrossR_pf hF n one).1 (acrossR_pf hF n other).1
  have jp : IsPF q n (joinR q n (acrossR q n one) (acrossR q n other)) := plainR_pf hF ja
  unfold meetR
  rw [acrossR_perp hF jp]
  have e : Mk q (joinR q n (acrossR q n one) (acrossR q n other)) = Mk q (acrossR q n one ++ acrossR q n other) := by
    funext y
    exact propext (plainR_mk hF ja y)
  rw [e, ← perp_across hF i1, ← perp_across hF i2]
  unfold Mk
  rw [List.map_append]
  exact perp_app x
theorem InR.meet (hF : Fld p) (h1 : PFR p n one) (h2 : PFR p n other) (r : List Int) : InR p (meetR p n one other) r ↔ InR p one r ∧ InR p other r := by
  constructor
  · intro h
    exact ⟨fun q z e => by subst e; exact ((meet_mk hF h1 h2 _).mp (h q z rfl)).1, fun q z e => by subst e; exact ((meet_mk hF h1 h2 _).mp (h q z rfl)).2⟩
  · rintro ⟨a, b⟩ q z e
    subst e
    exact (meet_mk hF h1 h2 _).mpr ⟨a q z rfl, b q z rfl⟩
theorem InR.left {ts : List (List Int)} {r : List Int} (h : InR p one r) : InR p (one ++ ts) r := InR.mono (fun x hx => InR.mem (List.mem_append_left _ hx)) h
theorem InR.join (hF : Fld p) (h1 : RowsOk p n one) (h2 : RowsOk p n other) {r : List Int} : InR p (joinR p n one other) r ↔ InR p (one ++ other) r := InR.plain hF (rowsOk_app h1 h2)
theorem pf_dim {q : Nat} [NeZero q] (hF : Fld (q : Int)) {room : List (List Int)} (h : PFR q n room) : dim invF n (room.map (toV (q := q))) = room.length := by
  have := plainR_len h.1
  rw [h.2] at this
  exact this.symm
end
theorem PFR.len {p : Int} {n : Nat} {room : List (List Int)} (hF : Fld p) (h : PFR p n room) : room.length ≤ n := by
  have := plainR_lenle hF h.1
  rwa [h.2] at this
end OC
set_option Elab.async false
set_option linter.all false
set_option maxRecDepth 100000
set_option maxHeartbeats 4000000
/-! across: the more a room has, the less -/
set_option Elab.async false
set_option linter.all false
set_option maxRecDepth 100000
set_option maxHeartbeats 4000000
/-! sorted of a list of rows, and of a dict whose keys are rows -/
namespace OC
open PySem PySem.Spec PyProof.Rows L2 SrtO
theorem TAll.perm {H : Hp} {xs ys : List V} (h : ys.Perm xs) : ∀ {gs : List (List Int)}, TAll H xs gs → ∃ hs, TAll H ys hs ∧ hs.Perm gs := by
  induction h with
  | nil => exact fun t => ⟨_, t, .refl _⟩
  | cons x _ ih =>
    intro gs t
    cases t with
    | cons h1 t1 =>
      obtain ⟨hs, a, b⟩ := ih t1
      exact ⟨_, .cons h1 a, .cons _ b⟩
  | swap x y l =>
    intro gs t
    cases t with
    | cons h1 t1 =>
      cases t1 with
      | cons h2 t2 => exact ⟨_, .cons h2 (.cons h1 t2), .swap _ _ _⟩
  | trans _ _ i1 i2 =>
    intro gs t
    obtain ⟨hs, a, b⟩ := i2 t
    obtain ⟨ks, c, d⟩ := i1 a
    exact ⟨ks, c, d.trans b⟩
theorem TAll.mem {H : Hp} : ∀ {xs : List V} {gs : List (List Int)}, TAll H xs gs → ∀ x ∈ xs, ∃ b g, x = .ref b ∧ g ∈ gs ∧ H b = some (.tup (g.map V.int))
  | _, _, .nil, x, hx => (nomatch hx)
  | _, _, .cons (b := b) (g := g) h t, x, hx => by
    rcases List.mem_cons.mp hx with rfl | hx
    · exact ⟨b, g, rfl, List.mem_cons_self, h⟩
    · obtain ⟨b', g', e, m, h'⟩ := t.mem x hx
      exact ⟨b', g', e, List.mem_cons_of_mem _ m, h'⟩
theorem TAll.dp {K : PySem.W.Frag} {H : Hp} : ∀ {vs : List V} {gs : List (List Int)}, TAll H vs gs → DpAll K H vs (gs.map rowD)
  | _, _, .nil => .nil
  | _, _, .cons h t => .cons (row_dp (.inl (.inl h))) t.dp
end OC
set_option Elab.async false
set_option linter.all false
set_option maxRecDepth 100000
set_option maxHeartbeats 4000000
/-! rows of a room by their numbers; worlds alike -/
namespace Lin
end Lin
namespace OC
open PySem PySem.Spec PyProof.Rows L2 Lin
section
variable {p : Int} {n : Nat} {room : List (List Int)} {fs : List Int}
theorem made_bd (hp : 0 < p) : ∀ (l : List (List Int × Int)) (z : List Int), (∀ x ∈ z, 0 ≤ x ∧ x < p) → ∀ x ∈ madeR p z l, 0 ≤ x ∧ x < p
  | [], _, h => h
  | _ :: l, _, _ => made_bd hp l _ (plus_ok hp)
end
/-! ### figures -/
/-! ### worlds -/
end OC
set_option Elab.async false
set_option linter.all false
set_option maxRecDepth 100000
set_option maxHeartbeats 4000000
/-! rows led by an exchange of places; what rows are worth tells what a row is worth -/
set_option Elab.async false
set_option linter.all false
set_option maxRecDepth 100000
set_option maxHeartbeats 4000000
/-! plain rows in any order: what is left of a row, and one row more -/
namespace Lin
section
variable {p : Nat} [NeZero p]
theorem red_perm {l m : List (Nat × Vec p)} (h : l.Perm m) (x : Vec p) : red l x = red m x := by
  induction h with
  | nil => rfl
  | cons b _ ih =>
    show addV (mulV (x b.1) b.2) _ = addV (mulV (x b.1) b.2) _
    rw [ih]
  | swap a b l =>
    funext i
    show x b.1 * b.2 i + (x a.1 * a.2 i + red l x i) = x a.1 * a.2 i + (x b.1 * b.2 i + red l x i)
    grind
  | trans _ _ i1 i2 => exact i1.trans i2
end
end Lin
namespace OC
open PySem PySem.Spec PyProof.Rows L2 Lin
section
variable {q : Nat} [NeZero q]
def pairV (b : List Int) : Nat × Vec q := (fpR b, toV (q := q) b)
theorem pairs_of : ∀ (room : List (List Int)) (bs : List (Nat × Vec q)), room.map fpR = bs.map (·.1) → bs.map (·.2) = room.map (toV (q := q)) → bs = room.map (pairV (q := q))
  | [], [], _, _ => rfl
  | [], _ :: _, h, _ => by cases h
  | _ :: _, [], h, _ => by cases h
  | c :: room, b :: bs, h1, h2 => by
    rw [List.map_cons, List.map_cons] at h1 h2
    obtain ⟨a1, a2⟩ := List.cons.inj h1
    obtain ⟨b1, b2⟩ := List.cons.inj h2
    rw [List.map_cons, ← pairs_of room bs a2 b2]
    congr 1
    exact Prod.ext a1.symm b1
theorem left_any (hF : Fld (q : Int)) {n : Nat} {room found : List (List Int)} (h : IsPF q n room) (pm : found.Perm room) {r : List Int} (hr : RowsOk q n [r]) : leftR q found r = leftR q room r := by
  obtain ⟨ok, bs, pf, e⟩ := h
  have ld : ∀ b ∈ bs, Lead b.2 b.1 := fun b hb => pf.leads (one_ne (q2 hF)) hb
  have eb := pairs_of room bs (firsts_eq room bs ok e ld) e
  have pc : (found.map (pairV (q := q))).Perm bs := by
    rw [eb]
    exact pm.map _
  have okf : RowsOk q n found := fun x hx => ok x (pm.mem_iff.mp hx)
  obtain ⟨a1, a2⟩ := leftR_sim room bs r ok hr e ld
  obtain ⟨b1, b2⟩ := leftR_sim found (found.map (pairV (q := q))) r okf hr (by rw [List.map_map]; rfl) fun b hb => ld b (pc.mem_iff.mp hb)
  have l1 := a1 _ List.mem_cons_self
  have l2 := b1 _ List.mem_cons_self
  refine toV_inj (q := q) (by rw [l1.1, l2.1]) l2.2 l1.2 ?_
  have pw : (found.map (pairV (q := q))).Pairwise (fun a c => a.2 c.1 = 0 ∧ c.2 a.1 = 0) := perm_pw (R := fun a c => a.2 c.1 = 0 ∧ c.2 a.1 = 0) (fun a b z => ⟨z.2, z.1⟩) pc (pf.inc.imp_of_mem fun {a c} ha hc hlt => ⟨pf.off a ha c hc (by omega), pf.off c hc a ha (by omega)⟩)
  rw [a2, b2, pf.leftF, leftF_eq _ _ (pw.imp fun z => z.1)]
  funext i
  show toV r i - red (found.map (pairV (q := q))) (toV r) i = toV r i - red bs (toV r) i
  rw [red_perm pc]
theorem desc (hF : Fld (q : Int)) {n : Nat} {room : List (List Int)} (h : IsPF q n room) : room.Pairwise fun a b => codeR q b < codeR q a := by
  obtain ⟨ok, bs, pf, e⟩ := h
  have ld : ∀ b ∈ bs, Lead b.2 b.1 := fun b hb => pf.leads (one_ne (q2 hF)) hb
  have fe := firsts_eq room bs ok e ld
  have : (room.map fpR).Pairwise (· < ·) := by
    rw [fe, List.pairwise_map]
    exact pf.inc
  rw [List.pairwise_map] at this
  exact this.imp_of_mem fun {a b} ha hb hlt => code_lead q_pos b a (by rw [(ok a ha).1, (ok b hb).1]) (ok b hb).2 (ok a ha).2 hlt
end
section
variable {p : Int} {n : Nat} {room found : List (List Int)} {r : List Int}
theorem PFR.left_any (hF : Fld p) (h : PFR p n room) (pm : found.Perm room) (hr : RowsOk p n [r]) : leftR p found r = leftR p room r := by
  obtain ⟨q, rfl, z, hF⟩ := to_q hF
  exact OC.left_any hF ((isPF_iff hF).mpr h) pm hr
theorem PFR.desc (hF : Fld p) (h : PFR p n room) : room.Pairwise fun a b => codeR p b < codeR p a := by
  obtain ⟨q, rfl, z, hF⟩ := to_q hF
  exact OC.desc hF ((isPF_iff hF).mpr h)
theorem PFR.more_perm (hF : Fld p) (h : PFR p n room) (hr : RowsOk p n [r]) (hne : fpR (leftR p room r) < n) : (ownR p (leftR p room r) (fpR (leftR p room r)) :: room.map fun b => lessR p b (ownR p (leftR p room r) (fpR (leftR p room r))) (fpR (leftR p room r))).Perm (plainR p n (room ++ [r])) := by
  generalize hL : (ownR p (leftR p room r) (fpR (leftR p room r)) :: room.map fun b => lessR p b (ownR p (leftR p room r) (fpR (leftR p room r))) (fpR (leftR p room r))) = L
  have pm := List.mergeSort_perm L (fun a b => decide (codeR p b ≤ codeR p a))
  have pw := List.pairwise_mergeSort (le := fun a b => decide (codeR p b ≤ codeR p a)) (fun a b c h1 h2 => decide_eq_true (by have := of_decide_eq_true h1; have := of_decide_eq_true h2; omega)) (fun a b => by
    by_cases hc : codeR p b ≤ codeR p a
    · rw [decide_eq_true hc]; rfl
    · rw [decide_eq_false hc, decide_eq_true (show codeR p a ≤ codeR p b by omega)]; rfl) L
  have e := PFR.widen hF h hr hne (rs := L.mergeSort fun a b => decide (codeR p b ≤ codeR p a)) (by rw [hL]; exact pm) (pw.imp fun z => of_decide_eq_true z)
  rw [← e]
  exact pm.symm
theorem strict_one {f : List Int → Int} : ∀ {l : List (List Int)}, l.Pairwise (fun a b => f b < f a) → ∀ a ∈ l, ∀ b ∈ l, f a = f b → a = b
  | [], _, a, ha, _, _, _ => (nomatch ha)
  | c :: l, h, a, ha, b, hb, e => by
    rw [List.pairwise_cons] at h
    rcases List.mem_cons.mp ha with ea | ha'
    · rcases List.mem_cons.mp hb with eb | hb'
      · rw [ea, eb]
      · have := h.1 b hb'
        rw [← ea] at this
        omega
    · rcases List.mem_cons.mp hb with eb | hb'
      · have := h.1 a ha'
        rw [← eb] at this
        omega
      · exact strict_one h.2 a ha' b hb' e
theorem PFR.desc_one (hF : Fld p) (h : PFR p n room) (pm : found.Perm room) (pw : found.Pairwise fun a b => codeR p b ≤ codeR p a) : found = room := by
  have d := PFR.desc hF h
  exact pm.eq_of_pairwise (le := fun a b => codeR p b ≤ codeR p a) (fun a b ha hb h1 h2 => strict_one d a (pm.mem_iff.mp ha) b hb (by omega)) pw (d.imp fun z => Int.le_of_lt z)
/-- one row more, the plain rows in any order -/
theorem PFR.step (hF : Fld p) (h : PFR p n room) (pm : found.Perm room) (hr : RowsOk p n [r]) (hne : fpR (leftR p room r) < n) : ((found.map fun b => lessR p b (ownR p (leftR p room r) (fpR (leftR p room r))) (fpR (leftR p room r))) ++ [ownR p (leftR p room r) (fpR (leftR p room r))]).Perm (plainR p n (room ++ [r])) := by
  refine List.Perm.trans ?_ (PFR.more_perm hF h hr hne)
  exact (List.perm_append_comm).trans ((List.Perm.cons _ (pm.map _)))
theorem own_first (hF : Fld p) {y : List Int} (ok : y.length = n ∧ ∀ x ∈ y, 0 ≤ x ∧ x < p) (hlt : fpR y < n) : fpR (ownR p y (fpR y)) = fpR y := by
  have h2 := hF.1
  have b := getD_lt (by omega) ok.2 (fpR y)
  have nz : y.getD (fpR y) 0 ≠ 0 := fpR_at (by rw [ok.1]; exact hlt)
  have hc := ctr_ok hF (show 1 ≤ y.getD (fpR y) 0 by omega) b.2
  have gd : ∀ i, i < n → (ownR p y (fpR y)).getD i 0 = ctr p (y.getD (fpR y) 0) * y.getD i 0 % p := fun i hi => by
    unfold ownR
    rw [gd_lt (by rw [List.length_map, ok.1]; exact hi), List.getElem_map, gd_lt (r := y) (i := i) (by rw [ok.1]; exact hi)]
  refine fpR_of ?_ fun i hi => ?_
  · rw [gd _ hlt, Int.mul_comm, hc.2.2]
    decide
  · rw [gd _ (by omega), fpR_low hi, Int.mul_zero, Int.zero_emod]
end
end OC
set_option Elab.async false
set_option linter.all false
set_option maxRecDepth 100000
set_option maxHeartbeats 4000000
/-! the drawn numbers of the laws over stands: a list of cells, a count, a list of rests -/
namespace OC
open PySem PySem.Spec PyProof.Rows L2
structure Drw (H : Hp) (d c e : Addr) (t : Int) : Prop where
  hd : H d = some (.lst [.ref c, .int t, .ref e])
  hc : ∃ cells rests : List Int, H c = some (.lst (cells.map V.int)) ∧ H e = some (.lst (rests.map V.int)) ∧ cells.length = rests.length ∧ 0 < cells.length ∧ cells.length ≤ 63 ∧ ∀ x ∈ rests, 0 ≤ x
  cd : c ≠ d
  ed : e ≠ d
  ce : c ≠ e
  t0 : 0 ≤ t
section
variable {H H' : Hp} {d c e : Addr} {t : Int}
theorem Drw.same (D : Drw H d c e t) (s : Same H H') : Drw H' d c e t := by
  obtain ⟨hd, ⟨cells, rests, h1, h2, h3⟩, a, b, f, t0⟩ := D
  exact ⟨s _ _ hd, ⟨cells, rests, s _ _ h1, s _ _ h2, h3⟩, a, b, f, t0⟩
/-- one of the three lists -/
def Bd3 (d c e : Addr) : Addr → Prop := fun a => a = d ∨ a = c ∨ a = e
theorem Drw.fresh (D : Drw H d c e t) {p : Addr} (n : H p = none) : ¬ Bd3 d c e p := by
  obtain ⟨hd, ⟨cells, rests, h1, h2, h3⟩, _⟩ := D
  rintro (z | z | z)
  · subst z; rw [hd] at n; cases n
  · subst z; rw [h1] at n; cases n
  · subst z; rw [h2] at n; cases n
theorem Drw.mut (D : Drw H d c e t) {B : Addr} {o : HO} (b : ¬ Bd3 d c e B) : Drw (upd H B o) d c e t := by
  obtain ⟨hd, ⟨cells, rests, h1, h2, h3⟩, x, y, z, t0⟩ := D
  exact ⟨by rw [upd_ne (fun z => b (.inl z.symm))]; exact hd, ⟨cells, rests, by rw [upd_ne (fun z => b (.inr (.inl z.symm)))]; exact h1, by rw [upd_ne (fun z => b (.inr (.inr z.symm)))]; exact h2, h3⟩, x, y, z, t0⟩
theorem Drw.tup {K : PySem.W.Frag} (D : Drw H d c e t) (k : Kept d e H H') {a : Addr} {xs : List V} (h : SqT K H a xs) : SqT K H' a xs := by
  obtain ⟨hd, ⟨cells, rests, h1, h2, h3⟩, _⟩ := D
  rcases h with (h | ⟨o, h⟩) | h
  · exact .inl (.inl (k _ _ h (fun z => by subst z; rw [hd] at h; cases h) (fun z => by subst z; rw [h2] at h; cases h)))
  · exact .inl (.inr ⟨o, k _ _ h (fun z => by subst z; rw [hd] at h; cases h) (fun z => by subst z; rw [h2] at h; cases h)⟩)
  · exact .inr h
theorem Drw.tk (D : Drw H d c e t) (k : Kept d e H H') : Tk H H' := fun _ _ _ h => D.tup k h
theorem Drw.rows {K : PySem.W.Frag} (D : Drw H d c e t) (k : Kept d e H H') {a : Addr} {rs : List (List Int)} (h : RowsAt K H a rs) : RowsAt K H' a rs := by
  obtain ⟨ws, h1, h2⟩ := h
  exact ⟨ws, D.tup k h1, dpAll_tk (D.tk k) _ _ (noL_rows rs) h2⟩
theorem Drw.lst (k : Kept d e H H') {a : Addr} {o : HO} (b : ¬ Bd3 d c e a) (h : H a = some o) : H' a = some o := k _ _ h (fun z => b (.inl z)) (fun z => b (.inr (.inr z)))
end
end OC
set_option Elab.async false
set_option linter.all false
set_option maxRecDepth 100000
set_option maxHeartbeats 4000000
namespace OC
open PySem PySem.Spec PyProof.Rows L2
/-- a name: one to eight small letters -/
def NameOk (s : Str) : Prop := 1 ≤ s.length ∧ s.length ≤ 8 ∧ ∀ c ∈ s.cps.toList, 97 ≤ c ∧ c ≤ 122
def nameL (st : List Nat) (k c : Nat) : List Nat := st.take k ++ ([c] ++ st.drop k)
theorem nameL_inj {st : List Nat} {k c c' : Nat} (h : nameL st k c = nameL st k c') : c = c' := by
  unfold nameL at h
  have := List.append_cancel_left h
  exact (List.cons.inj this).1
theorem nameL_len (st : List Nat) (k c : Nat) : (nameL st k c).length = st.length + 1 := by
  unfold nameL
  rw [List.length_append, List.length_append, List.length_take, List.length_drop]
  simp only [List.length_cons, List.length_nil]
  omega
theorem nameL_ok {st : List Nat} {k c : Nat} (h : ∀ x ∈ st, 97 ≤ x ∧ x ≤ 122) (hl : st.length ≤ 7) (hc : 97 ≤ c ∧ c ≤ 122) : NameOk (SX.S (nameL st k c)) := by
  have e := SX.S_len (nameL st k c)
  rw [nameL_len] at e
  refine ⟨by omega, by omega, fun x hx => ?_⟩
  have hx : x ∈ nameL st k c := hx
  unfold nameL at hx
  rcases List.mem_append.mp hx with hx | hx
  · exact h x (List.mem_of_mem_take hx)
  · rcases List.mem_append.mp hx with hx | hx
    · rw [List.mem_singleton.mp hx]
      exact hc
    · exact h x (List.mem_of_mem_drop hx)
theorem step_inj {f s : Int} {i j : Nat} (hs : s = 1 ∨ s = 3 ∨ s = 5 ∨ s = 7 ∨ s = 9 ∨ s = 11 ∨ s = 15 ∨ s = 17) (hi : i < 26) (hj : j < 26) (h : (f + s * i) % 26 = (f + s * j) % 26) : i = j := by
  rcases hs with rfl | rfl | rfl | rfl | rfl | rfl | rfl | rfl
  all_goals omega
def lettersS : Str := "abcdefghijklmnopqrstuvwxyz"
theorem letters_at {i : Int} (h0 : 0 ≤ i) (h1 : i < 26) : atI lettersS.cps.toList i = some (97 + i.toNat) := by
  have a : ∀ k : Fin 26, atI lettersS.cps.toList (k.val : Int) = some (97 + k.val) := by decide +kernel
  have := a ⟨i.toNat, by omega⟩
  rw [show ((⟨i.toNat, by omega⟩ : Fin 26).val : Int) = i from Int.toNat_of_nonneg h0] at this
  exact this
theorem join_ones : ∀ cs : List Nat, TL.joinL [] (cs.map fun c => [c]) = cs := by
  intro cs
  induction cs with
  | nil => rfl
  | cons c cs ih =>
    cases cs with
    | nil => rfl
    | cons d cs =>
      have : TL.joinL [] ((c :: d :: cs).map fun c => [c]) = [c] ++ ([] ++ TL.joinL [] ((d :: cs).map fun c => [c])) := rfl
      rw [this, ih]
      rfl
theorem ones_sum : ∀ cs : List Nat, ((cs.map fun c => SX.S [c]).map (·.length)).sum = cs.length := by
  intro cs
  induction cs with
  | nil => rfl
  | cons c cs ih =>
    rw [List.map_cons, List.map_cons, List.sum_cons, ih, SX.S_len, List.length_cons]
    simp only [List.length_cons, List.length_nil]
    omega
theorem join_cs (cs : List Nat) : Txt.join (Str.ofString "") (cs.map fun c => SX.S [c]) = SX.S cs := by
  have e := SX.join_S [] (cs.map fun c => [c])
  rw [List.map_map, join_ones] at e
  exact e
def nameAt (st : List Nat) (cut f s : Int) (k : Nat) : Str := SX.S (nameL st cut.toNat (97 + ((f + s * k) % 26).toNat))
theorem names_nodup {st : List Nat} {cut f s : Int} (hs : s = 1 ∨ s = 3 ∨ s = 5 ∨ s = 7 ∨ s = 9 ∨ s = 11 ∨ s = 15 ∨ s = 17) {m : Nat} (hm : m ≤ 26) : ((List.range m).map (nameAt st cut f s)).Nodup := by
  refine List.pairwise_map.mpr ((List.nodup_range (n := m)).imp_of_mem fun {i j} hi hj hne h => hne ?_)
  have hi := List.mem_range.mp hi
  have hj := List.mem_range.mp hj
  have h := nameL_inj (SX.S_inj h)
  refine step_inj (f := f) hs (by omega) (by omega) ?_
  have := Int.emod_nonneg (f + s * i) (b := 26) (by decide)
  have := Int.emod_nonneg (f + s * j) (b := 26) (by decide)
  omega
theorem nameAt_ok {st : List Nat} {cut f s : Int} {k : Nat} (h : ∀ x ∈ st, 97 ≤ x ∧ x ≤ 122) (hl : st.length ≤ 7) : NameOk (nameAt st cut f s k) := by
  refine nameL_ok h hl ?_
  have := Int.emod_nonneg (f + s * k) (b := 26) (by decide)
  have := Int.emod_lt_of_pos (f + s * k) (b := 26) (by decide)
  omega
end OC
set_option Elab.async false
set_option linter.all false
set_option maxRecDepth 100000
set_option maxHeartbeats 4000000
namespace OC
open PySem PySem.Spec PyProof.Rows L2
/-- a statement that is never reached -/
theorem ps_dead {X : Cx} {st : Stmt} : PS X st (fun _ _ _ => False) := ⟨fun _ _ _ _ _ _ h => h.elim⟩
def handD (h : Str × List (List Int)) : PyData := .tuple [.str h.1, .tuple (h.2.map rowD)]
/-- a stand as data -/
def standD (p : Int) (n : Nat) (kn : List (List Int)) (hs : List (Str × List (List Int))) : PyData := .tuple [.int p, .int n, .tuple (kn.map rowD), .tuple (hs.map handD)]
theorem noL_hands : ∀ hs : List (Str × List (List Int)), noLAll (hs.map handD) = true
  | [] => rfl
  | h :: hs => by
    have a : noL (handD h) = true := by
      unfold handD
      simp only [noL, noLAll, noL_rows, Bool.and_true]
    rw [List.map_cons]
    simp only [noLAll, a, noL_hands hs, Bool.and_true]
/-- a comprehension of drawn rows -/
theorem lc_rows3 {K : PySem.W.Frag} {d c : Addr} {t p : Int} {n m : Nat} {σ : L2.St} {H : Hp} {Qd : Addr → Hp → Prop} {i : Nat} {sl : List Nat} {te : TE} (D0 : Deck H d c t) (hm : m ≤ 100) (hw : ∀ x : Option V, wipe ((wipe σ sl).set i x) sl = wipe σ sl)
    (hte : ∀ (x : V) (k : Nat) (t' : Int) (H' : Hp) (Q' : VK), Deck H' d c t' → t' ≤ t + 20 * k → k < m → (∀ H'' t'' a r, Kept d c H' H'' → Deck H'' d c t'' → t'' ≤ t' + 20 → H'' a = some (.tup (r.map V.int)) → RowsOk p n [r] → Q' (.ref a) H'') → te ((wipe σ sl).set i (some x)) H' Q')
    (hd : ∀ (D : Addr) (H' : Hp) (t' : Int) (ws : List V) (rs : List (List Int)), Kept d c H H' → Deck H' d c t' → t' ≤ t + 20 * m → H D = none → H' D = some (.lst ws) → DpAll K H' ws (rs.map rowD) → rs.length = m → RowsOk p n rs → Qd D H') :
    LcGoal (Itr 0 m) (gName i) tYes te sl σ H Qd := by
  intro D nD
  have bD := D0.fresh nD
  refine lc_range (lo := 0) (n := m) (fun k H' => Kept d c H H' ∧ ∃ (t' : Int) (ws : List V) (rs : List (List Int)), Deck H' d c t' ∧ t' ≤ t + 20 * k ∧ H' D = some (.lst ws) ∧ DpAll K H' ws (rs.map rowD) ∧ rs.length = k ∧ RowsOk p n rs) ⟨Kept.of (same_upd nD), t, [], [], D0.same (same_upd nD), by omega, upd_same, .nil, rfl, fun x hx => nomatch hx⟩ (fun k H' hk hW => ?_) (fun H' hW => ?_)
  · obtain ⟨k', t', ws, rs, D', ht', eB, dp, ln, ro⟩ := hW
    refine ⟨hw _, hte _ k t' H' _ D' ht' hk fun H1 t1 a r k1 D1 ht1 ea okr => ?_⟩
    have eB1 := k1 _ _ eB (fun z => bD (.inl z)) (fun z => bD (.inr z))
    have na : D ≠ a := fun z => by subst z; rw [eB1] at ea; cases ea
    have lw := dpAll_len dp
    rw [List.length_map] at lw
    have tk : Tk H1 (upd H1 D (.lst (ws ++ [.ref a]))) := (Tk.refl _).mut eB1
    refine ⟨ws, eB1, small1000 (by omega), (k'.trans k1).mut nD, t1, ws ++ [.ref a], rs ++ [r], D1.mut bD, by omega, upd_same, ?_, by rw [List.length_append, ln]; rfl, fun y hy => ?_⟩
    · rw [List.map_append]
      refine dpAll_append (dpAll_tk tk _ _ (noL_rows rs) (dpAll_tk (Tk.kept D' k1) _ _ (noL_rows rs) dp)) (.cons (.tup (.inl (.inl ?_)) (dpAll_ints r)) .nil)
      rw [upd_ne (Ne.symm na)]
      exact ea
    · rcases List.mem_append.mp hy with h | h
      · exact ro y h
      · rw [List.mem_singleton.mp h]
        exact okr r List.mem_cons_self
  · obtain ⟨k', t', ws, rs, D', ht', eB, dp, ln, ro⟩ := hW
    exact hd D H' t' ws rs k' D' ht' nD eB dp ln ro
theorem dp_hand {K : PySem.W.Frag} {H : Hp} {v : V} {h : Str × List (List Int)} (d : Dp K H v (handD h)) : ∃ (b r : Addr), v = .ref b ∧ SqT K H b [.str h.1, .ref r] ∧ RowsAt K H r h.2 := by
  unfold handD at d
  cases d with
  | tup h1 h2 =>
    cases h2 with
    | cons a1 h2 =>
      cases a1
      cases h2 with
      | cons a2 h2 =>
        cases h2
        cases a2 with
        | tup q1 q2 => exact ⟨_, _, rfl, h1, ⟨_, q1, q2⟩⟩
theorem dpAll_hand {K : PySem.W.Frag} {H : Hp} {wg : List V} {hs : List (Str × List (List Int))} {i : Nat} {v : V} (h : DpAll K H wg (hs.map handD)) (e : wg[i]? = some v) : ∃ (b r : Addr) (x : Str × List (List Int)), v = .ref b ∧ hs[i]? = some x ∧ x ∈ hs ∧ SqT K H b [.str x.1, .ref r] ∧ RowsAt K H r x.2 := by
  obtain ⟨d, g, _, dp⟩ := dpAll_get h e
  rw [List.getElem?_map] at g
  obtain ⟨x, hx, rfl⟩ := Option.map_eq_some_iff.mp g
  obtain ⟨b, r, e1, e2, e3⟩ := dp_hand dp
  exact ⟨b, r, x, e1, hx, List.mem_of_getElem? hx, e2, e3⟩
/-- the rows of those hands whose names are asked for -/
def selR (ns : List Str) (hs : List (Str × List (List Int))) : List (List Int) := hs.flatMap fun h => if h.1 ∈ ns then h.2 else []
theorem sel_take {ns : List Str} {hs : List (Str × List (List Int))} {i : Nat} {x : Str × List (List Int)} (h : hs[i]? = some x) : selR ns (hs.take (i + 1)) = selR ns (hs.take i) ++ (if x.1 ∈ ns then x.2 else []) := by
  unfold selR
  rw [List.take_add_one, h, List.flatMap_append]
  congr 1
  simp only [Option.toList, List.flatMap_cons, List.flatMap_nil, List.append_nil]
theorem sel_ok {p : Int} {n : Nat} {ns : List Str} {hs : List (Str × List (List Int))} (h : ∀ x ∈ hs, RowsOk p n x.2) : RowsOk p n (selR ns hs) := by
  intro r hr
  obtain ⟨x, hx, hr⟩ := List.mem_flatMap.mp hr
  by_cases hn : x.1 ∈ ns
  · rw [if_pos hn] at hr
    exact h x hx r hr
  · rw [if_neg hn] at hr
    cases hr
theorem sel_len {ns : List Str} {B : Nat} : ∀ {hs : List (Str × List (List Int))}, (∀ x ∈ hs, x.2.length ≤ B) → (selR ns hs).length ≤ B * hs.length
  | [], _ => Nat.zero_le _
  | x :: hs, h => by
    have a := sel_len (ns := ns) (hs := hs) (fun y hy => h y (List.mem_cons_of_mem _ hy))
    have b := h x List.mem_cons_self
    have e : selR ns (x :: hs) = (if x.1 ∈ ns then x.2 else []) ++ selR ns hs := rfl
    rw [e, List.length_append, List.length_cons, Nat.mul_add, Nat.mul_one]
    by_cases hn : x.1 ∈ ns
    · rw [if_pos hn]
      omega
    · rw [if_neg hn, List.length_nil]
      omega
theorem flat_strs : ∀ ns : List Str, (ns.map V.str).all flatV = true
  | [] => rfl
  | x :: ns => by
    rw [List.map_cons, List.all_cons, flat_strs ns]
    rfl
theorem in_strs (x : Str) (ns : List Str) : inV (.str x) (ns.map V.str) = decide (x ∈ ns) := by
  unfold inV
  rw [List.any_map]
  by_cases h : x ∈ ns
  · rw [decide_eq_true h]
    refine List.any_eq_true.mpr ⟨x, h, ?_⟩
    show (x == x) = true
    exact beq_self_eq_true x
  · rw [decide_eq_false h]
    refine List.any_eq_false.mpr fun y hy e => h ?_
    have e : (y == x) = true := e
    rw [← eq_of_beq e]
    exact hy
end OC
set_option Elab.async false
set_option linter.all false
set_option maxRecDepth 100000
set_option maxHeartbeats 4000000
namespace OC
open PySem PySem.Spec PyProof.Rows L2
section
variable {prog : Program} {w : World} {A : Around} {E : Value → Shared → Prop} {s : Shared} {l : Addr} {its : List Value} {ns : List Int} {Q : Value → Shared → Prop}
/-- max of a tuple of ints, in the model -/
theorem max_tupI (hh : A.handled = none) (hl : s.heap.IsTuple l its.toArray) (hi : IntsAre its ns) (hne : 0 < ns.length)
    (h : ∀ h' tk M t', (∀ b o, s.heap.get? b = some o → h'.get? b = some o) → M ∈ ns → (∀ a, a ∈ ns → a ≤ M) → Q (.int M t') { s with heap := h', toks := tk }) : wpAny (model prog w) A (call (.builtin "max") [.ref l]) Q E s := by
  obtain ⟨xs, e⟩ := hi.allInts.items
  have hn : numsOf (intItems xs).toList = ns := by rw [← e]; exact hi.numsOf
  rw [nums_intItems] at hn
  subst hn
  rw [e] at hl
  have hsz : 0 < xs.size := by simpa using hne
  have hlt : l < s.heap.objs.size := by obtain ⟨_, e, _⟩ := hl; exact Heap.lt_size e
  refine call_max_walk (wpAny_pyIter_tuple hl ?_)
  refine ⟨_, [_, l], [_], _, _, _, _, rfl, Walks.tuple (A := A.in1) hh _ l (Nat.ne_of_lt hlt) (intItems xs), ⟨⟨_, Heap.get?_push_size _ rfl, rfl, rfl⟩, hl.push _⟩, fun c hc => ?_, by simpa [intItems] using hsz, CmpOf.ints_gt (numAt xs) (fun _ _ => intItems_at), fun v h' tk hP hk => ?_⟩
  · show c < (s.heap.push _).objs.size
    rw [Heap.size_push]
    rcases List.mem_cons.mp hc with rfl | hc
    · exact Nat.lt_succ_self _
    · rcases List.mem_cons.mp hc with rfl | hc
      · exact Nat.lt_succ_of_lt hlt
      · cases hc
  · have hold : ∀ c o, s.heap.get? c = some o → h'.get? c = some o := fun c o e => by
      refine hk c o (fun hm => ?_) (Heap.get?_push_of_some _ e)
      rcases List.mem_cons.mp hm with e1 | hm
      · exact absurd (e1 ▸ Heap.lt_size e) (Nat.lt_irrefl _)
      · cases hm
    obtain ⟨t, rfl⟩ := intItems_at hP
    obtain ⟨h1, h2⟩ := argBest_gt (numAt xs) (xs.size - 1)
    have ez : (intItems xs).size - 1 = xs.size - 1 := by simp [intItems]
    rw [ez]
    refine h h' tk _ t hold ?_ fun a ha => ?_
    · rw [numAt_eq]; exact PySem.getD_mem (by rw [List.length_map, Array.length_toList]; omega)
    · obtain ⟨j, hj, rfl⟩ := mem_getD ha
      rw [List.length_map, Array.length_toList] at hj
      rw [← numAt_eq]; exact h2 j (by omega)
end
def rMaxI (K : PySem.W.Frag) : List V → Hp → VK → Prop := fun vs H Q => ∃ (a : Addr) (ns : List Int), vs = [V.ref a] ∧ SqT K H a (ns.map V.int) ∧ 0 < ns.length ∧ ∀ m, m ∈ ns → (∀ y, y ∈ ns → y ≤ m) → Q (.int m) H
theorem cr_maxI {X : Cx} (hc : X.calm = true) : CallR X (.builtin "max") (rMaxI X.K) := by
  intro pins s σ H vs us Q I r h
  obtain ⟨a, ns, rfl, hs, hne, q⟩ := h
  obtain ⟨its, rv, hl, _⟩ := I.tuple hs
  rw [Vals.ref1 r]
  exact max_tupI (I.ok.hd hc) hl rv.ints hne fun h' tk m t' hk h1 h2 => ⟨.int _, H, I.kept hk, ⟨_, rfl⟩, q m h1 h2⟩
end OC
set_option Elab.async false
set_option linter.all false
set_option maxRecDepth 100000
set_option maxHeartbeats 4000000
namespace OC
open PySem PySem.Spec PyProof.Rows L2
theorem zero_iff {n : Nat} {l : List Int} (h : l.length = n) : (∀ y ∈ l, y = 0) ↔ l = List.replicate n 0 := by
  rw [List.eq_replicate_iff]
  exact ⟨fun z => ⟨h, z⟩, fun z => z.2⟩
theorem PFR.rows {p : Int} {n : Nat} {room : List (List Int)} (h : PFR p n room) : RowsOk p n room := fun r hr => h.1 r hr
/-- what is left of a row is nothing if the room holds it -/
theorem left_zero {p : Int} (hF : Fld p) {n : Nat} {room : List (List Int)} (h : PFR p n room) {r : List Int} (hr : RowsOk p n [r]) (hl : (leftR p room r).length = n) : (∀ y ∈ leftR p room r, y = 0) ↔ InR p room r := by
  rw [zero_iff hl, ← hasR_in hF h.rows hr, ← left_iff hF h hr]
  exact ⟨fun e => decide_eq_true e, fun e => of_decide_eq_true e⟩
end OC
set_option Elab.async false
set_option linter.all false
set_option maxRecDepth 100000
set_option maxHeartbeats 4000000
set_option Elab.async false
set_option linter.all false
set_option maxRecDepth 100000
set_option maxHeartbeats 4000000
namespace OC
open PySem PySem.Spec PyProof.Rows L2
/-- a drawn stand -/
structure Stand5 (p : Int) (n : Nat) (kn : List (List Int)) (hs : List (Str × List (List Int))) : Prop where
  fld : Fld p
  p1 : p ≤ 1000
  n1 : 1 ≤ n
  n8 : n ≤ 8
  pk : PFR p n kn
  ph : ∀ h ∈ hs, PFR p n h.2
  inn : ∀ h ∈ hs, ∀ r ∈ kn, InR p h.2 r
  few : 2 ≤ hs.length
  many : hs.length ≤ 9
  srt : sortedS (hs.map Prod.fst) = true
  nd : (hs.map Prod.fst).Nodup
  nm : ∀ x ∈ hs.map Prod.fst, NameOk x
end OC
set_option Elab.async false
set_option linter.all false
set_option maxRecDepth 100000
set_option maxHeartbeats 4000000
/-! what repr asks, with bounds; comprehensions of things with old lists in them -/
namespace OC
open PySem PySem.Spec PyProof.Rows L2
structure FitZ (B k : Nat) (d : PyData) : Prop where
  len : d.shown.length ≤ B
  sh : d.showable = true
  dp : d.depth ≤ k
theorem FitZ.mono {B B' k k' : Nat} {d : PyData} (h : FitZ B k d) (hB : B ≤ B') (hk : k ≤ k') : FitZ B' k' d := ⟨Nat.le_trans h.len hB, h.sh, Nat.le_trans h.dp hk⟩
theorem Drw.some {d c e : Addr} {t : Int} {H : Hp} (D : Drw H d c e t) {a : Addr} (b : Bd3 d c e a) : H a ≠ none := by
  obtain ⟨cells, rests, h1, h2, _⟩ := D.hc
  rcases b with z | z | z
  · subst z; rw [D.hd]; exact fun z => nomatch z
  · subst z; rw [h1]; exact fun z => nomatch z
  · subst z; rw [h2]; exact fun z => nomatch z
end OC
set_option Elab.async false
set_option linter.all false
set_option maxRecDepth 100000
set_option maxHeartbeats 2000000
/-! errors of classes of one's own, made without an argument; defs that may raise, by name -/
namespace OC
open PySem PySem.Spec PyProof.Rows L2
/-- as Ok, for a def that may raise -/
structure OkX (P : Program) (w : World) (K : PySem.W.Frag) (mg : Str → Option Value) (base : Heap) (k : Nat) (x : Str) (ps : List Str) (sp : Sp) : Prop where
  ex : ∃ (f : Addr) (fd : FuncData), FnOk P w K mg base (L2.CX P w) k f fd ps sp ∧ mg x = some (.ref f) ∧ PySem.W.keepIn K (.ref f) = true ∧ Binds K fd ps []
section
variable {P : Program} {w : World} {K : PySem.W.Frag} {mg : Str → Option Value} {base : Heap}
theorem Df.okX {x : Str} {st : Stmt} {N ps : List Str} {k : Nat} {sp : Sp} (D : Df K mg x st ps) (S : FnScope N ps (defScope st)) (len : ∀ vs H Q E, sp vs H Q E → vs.length = ps.length)
    (hbody : ∀ (f : Addr) (cdv : Value) (A : Around) (outer : List Env) (s : Shared) (H : Hp) (vs : List V) (Q : VK) (E : XK), Room k (A.deeper (envOfC x (defScope st) s.heap.objs.size f cdv)) → sp vs H Q E →
      ∃ t, PSs (cxOf (L2.CX P w) P w K mg base N x (defScope st) f cdv A outer s H E) (defBody st) t ∧ t { nx := fun _ H' => Q .non H', rt := Q } (start N vs) H) : OkX P w K mg base (k + 1) x ps sp := by
  obtain ⟨f, fd, F, b, g⟩ := D.ex
  exact ⟨f, fd, F.okX S len (hbody f), g, F.kp, b⟩
theorem OkX.mono {x : Str} {ps : List Str} {j k : Nat} {sp : Sp} (O : OkX P w K mg base j x ps sp) (h : j ≤ k) : OkX P w K mg base k x ps sp := by
  obtain ⟨f, fd, F, r⟩ := O.ex
  exact ⟨f, fd, F.mono h, r⟩
end
section
variable {X : Cx} {x : Str} {ps : List Str} {k : Nat} {sp : Sp}
/-- a call in a try's body: W is what the clauses wish of an error -/
theorem pe_callX {W : WX} {e : Expr} {es : List Expr} {t : TA} {p pos : Pos} (O : OkX X.prog X.w X.K X.mg X.base k x ps sp) (tk : Takes X W) (hr : Room k X.A) (hg : Gl X x) (ha : PA X (e :: es) t) (hdb : (x == ("__debug__" : Str)) = false := by decide)
    (he : starEach (e :: es) X.env = (false, eval e X.env) :: starEach es X.env := by rfl) (hpl : (backTo pos (starEach es X.env)).any (·.1) = false := by rfl) :
    PE X (.Call (.Name x p) (e :: es) [] pos) (tCallS sp (WE W) t) := by
  obtain ⟨f, fd, F, g, kp, b⟩ := O.ex
  exact pe_callS F hr hg g kp b (fun σ => passAt tk σ) ha hdb he hpl
end
end OC
set_option Elab.async false
set_option linter.all false
set_option maxRecDepth 100000
set_option maxHeartbeats 2000000
/-! zip of a list and a tuple -/
namespace OC
open PySem PySem.Spec PyProof.Rows L2
/-- the list at a and the tuple at b as they stand at each turn, the items in new pairs -/
def ItzM (K : PySem.W.Frag) (a b : Addr) : It :=
  ⟨fun i H => ∃ (xs ys : List V) (x y : V), SqL K H a xs ∧ SqT K H b ys ∧ xs[i]? = some x ∧ ys[i]? = some y,
    fun i H v H' => ∃ T x y, v = .ref T ∧ H T = none ∧ H' = upd H T (.tup [x, y]) ∧ (∀ xs, SqL K H a xs → xs[i]? = some x) ∧ ∀ ys, SqT K H b ys → ys[i]? = some y,
    fun i H => ∃ xs ys : List V, SqL K H a xs ∧ SqT K H b ys ∧ i ≤ xs.length ∧ i ≤ ys.length ∧ (i = xs.length ∨ i = ys.length)⟩
theorem sep_of {z TI TO i1 i2 l1 l2 : Addr} (D : ZipApart z TI TO i1 i2 l1 l2) : ZipSep2 z TI TO i1 i2 [i1, l1] [i2, l2] where
  TIz := D.TIz
  TOz := D.TOz
  TITO := D.TITO
  TIi1 := D.TIi1
  mem1 := by simp
  zf1 := by simp; exact ⟨Ne.symm D.i1z, Ne.symm D.l1z⟩
  Tf1 := by simp; exact ⟨D.TOi1, Ne.symm D.l1TO⟩
  TIi2 := D.TIi2
  mem2 := by simp
  zf2 := by simp; exact ⟨Ne.symm D.i2z, Ne.symm D.l2z⟩
  Tf2 := by simp; exact ⟨D.TOi2, Ne.symm D.l2TO⟩
  sep1_2 := by simp; exact ⟨D.i12, Ne.symm D.l2i1⟩
  sep2_1 := by simp; exact ⟨Ne.symm D.i12, Ne.symm D.l1i2⟩
theorem turn_zipM {P : Program} {w : World} {K : PySem.W.Frag} {elts : List Expr} {kk : Nat} {tpos : Pos} {a b z TI TO i1 i2 : Addr} (D : ZipApart z TI TO i1 i2 a b) :
    Turn P w K (.Tuple elts kk tpos) (ItzM K a b) [z, TI, TO, i1, i2] z (fun i h => IsZip h z TI TO .none ∧ IsTupOf2 h TI (.ref i1) (.ref i2) ∧ (∃ x y, IsTupOf2 h TO x y) ∧ h.IsListIter i1 a i ∧ h.IsTupleIter i2 b i) where
  mem := by simp
  obj := fun i h st c hc => by
    obtain ⟨hz, hTI, ⟨x, y, hTO⟩, ⟨o1, e1, _, d1⟩, ⟨o2, e2, _, d2⟩⟩ := st
    have e' : c = z ∨ c = TI ∨ c = TO ∨ c = i1 ∨ c = i2 := by simpa using hc
    rcases e' with q | q | q | q | q
    · rw [q]; exact ⟨_, hz, fun v q => nomatch q⟩
    · rw [q]; exact ⟨_, hTI, fun v q => nomatch q⟩
    · rw [q]; exact ⟨_, hTO, fun v q => nomatch q⟩
    · rw [q]; exact ⟨o1, e1, fun v q => by rw [d1] at q; cases q⟩
    · rw [q]; exact ⟨o2, e2, fun v q => by rw [d2] at q; cases q⟩
  keep := fun i h h' st k => by
    obtain ⟨hz, hTI, ⟨x, y, hTO⟩, h1, h2⟩ := st
    exact ⟨k z (by simp) _ hz, k TI (by simp) _ hTI, ⟨x, y, k TO (by simp) _ hTO⟩, h1.at fun o q => k i1 (by simp) o q, h2.at fun o q => k i2 (by simp) o q⟩
  item := by
    intro X hP hw hK hc i pins s σ H E I hf st hg
    subst hP hw hK
    obtain ⟨hz, hTI, ⟨x0, y0, hTO⟩, h1, h2⟩ := st
    obtain ⟨xs, ys, x, y, hqx, hqy, hx, hy⟩ := hg
    obtain ⟨its, rv, p, _⟩ := I.list hqx
    obtain ⟨its2, rv2, p2, _⟩ := I.tuple hqy
    obtain ⟨u, hu, ru⟩ := rv.get hx
    obtain ⟨u2, hu2, ru2⟩ := rv2.get hy
    have hzl : z < s.heap.objs.size := Heap.lt_size hz
    have hh : X.A.in1.handled = none := I.ok.hd hc
    refine wpAny_pyNext_zipD2_item (sep_of D) (Draws.list hh i1 a D.l1i1 its.toArray) (Draws.tuple hh i2 b D.l2i2 its2.toArray) hz hTI hTO ⟨h1, p.isList⟩ ⟨h2, p2⟩ ?_ ?_ fun x1 x2 h' tk y1 y2 z' TO' st1' st2' hT hsz hk => ?_
    · have := (List.getElem?_eq_some_iff.mp hu).1
      simpa using this
    · have := (List.getElem?_eq_some_iff.mp hu2).1
      simpa using this
    have e1 : x1 = u := by
      have : its[i]? = some x1 := by simpa using y1
      rw [hu] at this
      exact (Option.some.inj this).symm
    have e2 : x2 = u2 := by
      have : its2[i]? = some x2 := by simpa using y2
      rw [hu2] at this
      exact (Option.some.inj this).symm
    subst e1 e2
    refine ⟨_, rfl, wpAny_letOwnedTupleGo_zip (s := { s with heap := h', toks := tk }) z' fun h'' z'' sb => ?_⟩
    have hT2 : h''.get? s.heap.objs.size = some { cls := .type "tuple", data := .seq #[x1, x2] } := (sb.2 _ (Nat.ne_of_gt hzl)).trans hT
    have new : ObjOk X.prog X.w (upd H s.heap.objs.size (.tup [x, y])) h'' s.heap.objs.size (.tup [x, y]) :=
      ⟨by show 2 ≤ sizeLine; decide, [x1, x2], .cons ru (.cons ru2 .nil), ⟨_, hT2, rfl, _, rfl⟩⟩
    have I1 : Inv X pins σ (upd H s.heap.objs.size (.tup [x, y])) { s with heap := h'', toks := tk } :=
      I.turnedNew (t' := tk) (ch := [z, TI, TO, i1, i2]) (fun c o hb q => (sb.2 c (fun q' => hb (by simp [q']))).trans (hk c o (fun q' => hb (by simp [q'])) (fun q' => hb (by simp [q'])) (fun q' => hb (by simp [q'])) (fun q' => hb (by simp [q'])) q)) hf (Nat.le_refl _) new
    refine ⟨.ref s.heap.objs.size, _, I1, rfl, ⟨_, x, y, rfl, I.hok.fresh (Nat.le_refl _), rfl, fun l hl => by rw [I.list_inj hl hqx]; exact hx, fun l hl => by rw [I.tuple_inj hl hqy]; exact hy⟩, ⟨z'', ?_, ⟨x1, x2, ?_⟩, ?_, ?_⟩, fun c hcm => ?_⟩
    · exact (sb.2 _ D.TIz).trans (hk _ _ D.TIz D.TITO D.TIi1 D.TIi2 hTI)
    · exact (sb.2 _ D.TOz).trans TO'
    · exact st1'.1.at fun o q => (sb.2 _ D.i1z).trans q
    · exact st2'.1.at fun o q => (sb.2 _ D.i2z).trans q
    · have hlt : c < s.heap.objs.size := by
        have e' : c = z ∨ c = TI ∨ c = TO ∨ c = i1 ∨ c = i2 := by simpa using hcm
        rcases e' with q | q | q | q | q
        · rw [q]; exact hzl
        · rw [q]; exact Heap.lt_size hTI
        · rw [q]; exact Heap.lt_size hTO
        · rw [q]; obtain ⟨_, e1, _⟩ := h1; exact Heap.lt_size e1
        · rw [q]; obtain ⟨_, e2, _⟩ := h2; exact Heap.lt_size e2
      rw [upd_ne (Nat.ne_of_lt hlt)]
      exact (hf c hcm).1
  done := by
    intro X hP hw hK hc i pins s σ H E I hf st hg
    subst hP hw hK
    obtain ⟨hz, hTI, ⟨x0, y0, hTO⟩, h1, h2⟩ := st
    obtain ⟨xs, ys, hqx, hqy, le1, le2, hend⟩ := hg
    obtain ⟨its, rv, p, _⟩ := I.list hqx
    obtain ⟨its2, rv2, p2, _⟩ := I.tuple hqy
    have l1 := rv.length
    have l2 := rv2.length
    have hh : X.A.in1.handled = none := I.ok.hd hc
    have sz1 : its.toArray.size = its.length := by simp
    have sz2 : its2.toArray.size = its2.length := by simp
    exact wpAny_pyNext_zipD2_end (sep_of D) (Draws.list hh i1 a D.l1i1 its.toArray) (Draws.tuple hh i2 b D.l2i2 its2.toArray) hz hTI hTO ⟨h1, p.isList⟩ ⟨h2, p2⟩ (by omega) (by omega) (by omega) fun h' tk hk => ⟨rfl, I.turnedL (t' := tk) (ch := [z, TI, TO, i1, i2]) (fun c o hb q =>
      hk c o (fun q' => hb (by simp [q'])) (fun q' => hb (by simp [q'])) (fun q' => hb (by simp [q'])) (fun q' => hb (by simp [q'])) q) hf⟩
  self := fun A i s Q E st h => wpAny_pyIter_zip st.1 h
/-- zip(xs, ys): two tuples, or a list and a tuple -/
def iZipB (K : PySem.W.Frag) (ta : TA) : TI := fun σ H R => ta σ H fun vs H1 => ∃ a b xs ys, vs = [.ref a, .ref b] ∧ SqT K H1 b ys ∧ ((SqT K H1 a xs ∧ R (RZ.ItzT K a b) H1) ∨ (SqL K H1 a xs ∧ R (ItzM K a b) H1))
theorem pi_zipB {X : Cx} {e e2 : Expr} {ta : TA} {p pos tpos : Pos} {elts : List Expr} {kk : Nat} (hg : Gl X "zip") (hm : X.mg "zip" = none) (ha : PA X [e, e2] ta)
    (hs : starEach [e, e2] X.env = (false, eval e X.env) :: starEach [e2] X.env := by rfl) (hpl : (backTo pos (starEach [e2] X.env)).any (·.1) = false := by rfl) :
    PI X (.Tuple elts kk tpos) (.Call (.Name "zip" p) [e, e2] [] pos) (iZipB X.K ta) := by
  refine ⟨fun pins s σ H R I h => ?_⟩
  refine Call_ (ld_blt I hg hm PyProof.Rows.boot_zip (PyProof.Rows.callWith_type1 (thn (ha.run pos pins s σ H _ I h) fun us s1 ⟨vs, H1, I1, r1, q1⟩ => ?_) hs hpl))
  obtain ⟨a, b, xs, ys, ex, hqy, q⟩ := q1
  subst ex
  cases r1 with
  | cons r rr =>
    cases rr with
    | cons r' rr =>
      cases rr
      cases r
      cases r'
      have fresh5 : ∀ c, c ∈ [s1.heap.objs.size + 4, s1.heap.objs.size + 2, s1.heap.objs.size + 3, s1.heap.objs.size, s1.heap.objs.size + 1] → FpOk X pins H1 c := fun c hcm => by
        have hle : s1.heap.objs.size ≤ c := by
          have e' : c = s1.heap.objs.size + 4 ∨ c = s1.heap.objs.size + 2 ∨ c = s1.heap.objs.size + 3 ∨ c = s1.heap.objs.size ∨ c = s1.heap.objs.size + 1 := by simpa using hcm
          rcases e' with z | z | z | z | z
          · rw [z]; exact Nat.le_add_right _ _
          · rw [z]; exact Nat.le_add_right _ _
          · rw [z]; exact Nat.le_add_right _ _
          · rw [z]; exact Nat.le_refl _
          · rw [z]; exact Nat.le_add_right _ _
        exact I1.fpOk hle (I1.hok.fresh hle)
      rcases q with ⟨hqx, q⟩ | ⟨hqx, q⟩
      · obtain ⟨its, rv, p1, _⟩ := I1.tuple hqx
        obtain ⟨its2, rv2, p2, _⟩ := I1.tuple hqy
        obtain ⟨o1, ho1, _⟩ := id p1
        obtain ⟨o2, ho2, _⟩ := id p2
        refine RZ.call_zipT (show s1.heap.IsTuple a its.toArray from p1) (show s1.heap.IsTuple b its2.toArray from p2) fun h' hz hTI hTO h1 h2 hsz hk => wpAny_pyIter_zip hz ?_
        have I2 : Inv X pins σ H1 { s1 with heap := h' } := I1.kept (t' := s1.toks) hk
        exact ⟨s1.heap.objs.size + 4, [s1.heap.objs.size + 4, s1.heap.objs.size + 2, s1.heap.objs.size + 3, s1.heap.objs.size, s1.heap.objs.size + 1], _, _, H1, rfl, I2, RZ.turn_zipT (PySem.W.ktu_apart s1.heap.objs.size a b (Heap.lt_size ho1) (Heap.lt_size ho2)), ⟨hz, hTI, ⟨_, _, hTO⟩, h1, h2⟩, fresh5, q⟩
      · obtain ⟨its, rv, p1, _⟩ := I1.list hqx
        obtain ⟨its2, rv2, p2, _⟩ := I1.tuple hqy
        obtain ⟨o2, ho2, _⟩ := id p2
        refine zip_begins2 (begins_list a its.toArray) (begins_tuple b its2.toArray) p1.isList (show s1.heap.IsTuple b its2.toArray from p2) fun h' hz hTI hTO h1 h2 hsz hk => wpAny_pyIter_zip hz ?_
        have I2 : Inv X pins σ H1 { s1 with heap := h' } := I1.kept (t' := s1.toks) hk
        exact ⟨s1.heap.objs.size + 4, [s1.heap.objs.size + 4, s1.heap.objs.size + 2, s1.heap.objs.size + 3, s1.heap.objs.size, s1.heap.objs.size + 1], _, _, H1, rfl, I2, turn_zipM (PySem.W.ktu_apart s1.heap.objs.size a b p1.lt (Heap.lt_size ho2)), ⟨hz, hTI, ⟨_, _, hTO⟩, ⟨_, h1, rfl, rfl⟩, ⟨_, h2, rfl, rfl⟩⟩, fresh5, q⟩
end OC
set_option Elab.async false
set_option linter.all false
set_option maxRecDepth 100000
set_option maxHeartbeats 2000000
/-! t.index(i) of a tuple of ints -/
set_option Elab.async false
set_option linter.all false
set_option maxRecDepth 100000
set_option maxHeartbeats 4000000
namespace OC
open PySem PySem.Spec PyProof.Rows L2
/-! ### tuples that are known to have no dict: their methods -/
def TupF (H : Hp) (l : Addr) (xs : List V) : Prop := ∃ o : Obj, o.dict = none ∧ H l = some (.frz o (.tup xs))
theorem TupF.sq {K : PySem.W.Frag} {H : Hp} {l : Addr} {xs : List V} (h : TupF H l xs) : SqT K H l xs := by
  obtain ⟨o, _, h⟩ := h
  exact .inl (.inr ⟨o, h⟩)
theorem TupF.same {H H' : Hp} {l : Addr} {xs : List V} (s : Same H H') (h : TupF H l xs) : TupF H' l xs := by
  obtain ⟨o, n, h⟩ := h
  exact ⟨o, n, s _ _ h⟩
def rTupF (K : PySem.W.Frag) : List V → Hp → VK → Prop := fun xs H Q => ∃ p ys, xs = [.ref p] ∧ SqL K H p ys ∧ ∀ l o, H l = none → o.dict = none → Q (.ref l) (upd H l (.frz o (.tup ys)))
theorem call_tuple_F {X : Cx} : CallR X (.type "tuple") (rTupF X.K) := by
  intro pins s σ H xs us Q I r h
  obtain ⟨p, ys, rfl, hq, q⟩ := h
  obtain ⟨u, rfl, rx⟩ := vals1 r
  cases rx
  obtain ⟨its, r', pl, hz⟩ := I.list hq
  have hlen := r'.length
  refine call_tuple_list pl.isList (fun h' kp => ?_) (by simp only [List.size_toArray] <;> omega)
  have I1 : Inv X pins σ H { s with heap := h' } := I.kept (t' := s.toks) kp
  have I2 : Inv X pins σ (upd H h'.objs.size (.frz { cls := .type "tuple", data := .seq its.toArray } (.tup ys))) { s with heap := h'.push { cls := .type "tuple", data := .seq its.toArray } } :=
    I1.laid (t' := s.toks) (fun b o e => Heap.get?_push_of_some _ e) (Nat.le_refl _) (show ObjOk X.prog X.w _ _ _ (.frz { cls := .type "tuple", data := .seq its.toArray } (.tup ys)) from ⟨Heap.get?_push_size _ rfl, hz, its, r', IsTup.new _ _⟩)
  exact ⟨.ref h'.objs.size, _, I2, rfl, q _ _ (I1.hok.fresh (Nat.le_refl _)) rfl⟩
end OC
set_option Elab.async false
set_option linter.all false
set_option maxRecDepth 100000
set_option maxHeartbeats 4000000
set_option Elab.async false
set_option linter.all false
set_option maxRecDepth 100000
set_option maxHeartbeats 4000000
/-! stage 4's plain form: rows reduced by one another, by mixes -/
namespace OC
open PySem PySem.Spec PyProof.Rows L2 Lin
theorem left_take {p : Int} {fs : List (List Int)} {r b : List Int} {j : Nat} (h : fs[j]? = some b) : leftR p (fs.take (j + 1)) r = lessR p (leftR p (fs.take j) r) b (fpR b) := by
  unfold leftR
  rw [List.take_add_one, h, List.foldl_append]
  rfl
inductive FAll (H : Hp) : List V → List (List Int) → Prop
  | nil : FAll H [] []
  | cons {b : Addr} {g : List Int} {vs : List V} {gs : List (List Int)} : TupF H b (g.map V.int) → FAll H vs gs → FAll H (.ref b :: vs) (g :: gs)
theorem FAll.same {H H' : Hp} (s : Same H H') : ∀ {vs : List V} {gs : List (List Int)}, FAll H vs gs → FAll H' vs gs
  | _, _, .nil => .nil
  | _, _, .cons h t => .cons (h.same s) (t.same s)
theorem FAll.app {H : Hp} : ∀ {vs us : List V} {gs hs : List (List Int)}, FAll H vs gs → FAll H us hs → FAll H (vs ++ us) (gs ++ hs)
  | _, _, _, _, .nil, h => h
  | _, _, _, _, .cons h t, h2 => .cons h (t.app h2)
theorem FAll.len {H : Hp} : ∀ {vs : List V} {gs : List (List Int)}, FAll H vs gs → vs.length = gs.length
  | _, _, .nil => rfl
  | _, _, .cons _ t => by rw [List.length_cons, List.length_cons, t.len]
theorem FAll.get {H : Hp} : ∀ {vs : List V} {gs : List (List Int)} {i : Nat} {v : V}, FAll H vs gs → vs[i]? = some v → ∃ b g, v = .ref b ∧ gs[i]? = some g ∧ TupF H b (g.map V.int)
  | _, _, _, _, .nil, h => by simp at h
  | _, _, 0, _, .cons (b := b) (g := g) h t, e => by cases e; exact ⟨b, g, rfl, rfl, h⟩
  | _, _, i + 1, v, .cons h t, e => t.get (i := i) (v := v) e
theorem FAll.mut {H : Hp} {D : Addr} {xs : List V} {o : HO} (e : H D = some (.lst xs)) : ∀ {vs : List V} {gs : List (List Int)}, FAll H vs gs → FAll (upd H D o) vs gs
  | _, _, .nil => .nil
  | _, _, .cons h t => by
    obtain ⟨ob, n, h⟩ := h
    exact .cons ⟨ob, n, by rw [upd_ne (fun z => by rw [z, e] at h; cases h)]; exact h⟩ (t.mut e)
theorem FAll.dp {K : PySem.W.Frag} {H : Hp} : ∀ {vs : List V} {gs : List (List Int)}, FAll H vs gs → DpAll K H vs (gs.map rowD)
  | _, _, .nil => .nil
  | _, _, .cons h t => .cons (row_dp h.sq) t.dp
def posR (r : List Int) (k : Nat) : List Nat := (List.range k).filter fun i => decide (r.getD i 0 > 0)
theorem posR_succ (r : List Int) (k : Nat) : posR r (k + 1) = posR r k ++ (if r.getD k 0 > 0 then [k] else []) := by
  unfold posR
  rw [List.range_succ, List.filter_append]
  congr 1
  by_cases h0 : r.getD k 0 > 0
  · rw [if_pos h0]
    exact List.filter_cons_of_pos (decide_eq_true h0)
  · rw [if_neg h0]
    exact List.filter_cons_of_neg (by rw [decide_eq_false h0]; decide)
theorem posR_nz {p : Int} {r : List Int} (h : ∀ x ∈ r, 0 ≤ x ∧ x < p) (hp : 0 < p) (k : Nat) : posR r k = nzsR r k := by
  unfold posR nzsR
  refine List.filter_congr fun i _ => decide_eq_decide.mpr ?_
  have := (getD_lt hp h i).1
  omega
end OC
set_option Elab.async false
set_option linter.all false
set_option maxRecDepth 100000
set_option maxHeartbeats 4000000
/-! stage 4's drawn stands -/
set_option Elab.async false
set_option linter.all false
set_option maxRecDepth 100000
set_option maxHeartbeats 4000000
/-! sorted of a list of data: tuples of texts, tuples of these, the empty tuple first among them -/
set_option Elab.async false
set_option linter.all false
set_option maxRecDepth 100000
set_option maxHeartbeats 4000000
/-! parts of a group: tuples of texts, all of them, sorted -/
namespace OC
open PySem PySem.Spec PyProof.Rows L2 PySem.W
def txD (s : List Str) : PyData := .tuple (s.map PyData.str)
theorem dpAll_strs {K : PySem.W.Frag} {H : Hp} : ∀ ns : List Str, DpAll K H (ns.map V.str) (ns.map PyData.str)
  | [] => .nil
  | x :: ns => .cons (.str x) (dpAll_strs ns)
theorem dpAll_str_inv {K : PySem.W.Frag} {H : Hp} : ∀ {xs : List V} {r : List Str}, DpAll K H xs (r.map PyData.str) → xs = r.map V.str
  | _, [], h => by cases h; rfl
  | _, x :: r, h => by
    cases h with
    | cons a b =>
      cases a
      rw [dpAll_str_inv b]
      rfl
theorem dpAll_tx {K : PySem.W.Frag} {H : Hp} {vs : List V} {ss : List (List Str)} {i : Nat} {v : V} (h : DpAll K H vs (ss.map txD)) (e : vs[i]? = some v) : ∃ a s, v = .ref a ∧ ss[i]? = some s ∧ s ∈ ss ∧ SqT K H a (s.map V.str) := by
  obtain ⟨d, g, _, dp⟩ := dpAll_get h e
  rw [List.getElem?_map] at g
  obtain ⟨x, hx, rfl⟩ := Option.map_eq_some_iff.mp g
  unfold txD at dp
  cases dp with
  | tup h1 h2 =>
    rw [dpAll_str_inv h2] at h1
    exact ⟨_, x, rfl, hx, List.mem_of_getElem? hx, h1⟩
theorem noL_strs : ∀ s : List Str, noLAll (s.map PyData.str) = true
  | [] => rfl
  | x :: s => by
    rw [List.map_cons]
    simp only [noLAll, noL, noL_strs s, Bool.and_true]
theorem noL_txs : ∀ ss : List (List Str), noLAll (ss.map txD) = true
  | [] => rfl
  | s :: ss => by
    rw [List.map_cons]
    unfold txD
    simp only [noLAll, noL, noL_strs, Bool.true_and]
    exact noL_txs ss
theorem depth_strs : ∀ a : List Str, PyData.depthAll (a.map PyData.str) = 0
  | [] => by simp [PyData.depthAll]
  | x :: a => by
    rw [List.map_cons, PyData.depthAll, depth_strs a]
    simp [PyData.depth]
theorem depth_tx (a : List Str) : (txD a).depth = 1 := by
  unfold txD
  rw [PyData.depth, depth_strs]
theorem name_strOk {x : Str} (h : NameOk x) : PyData.strOk x = true := by
  unfold PyData.strOk
  rw [← Array.all_toList]
  refine List.all_eq_true.mpr fun c hc => decide_eq_true ?_
  have := (h.2.2 c hc).2
  omega
theorem shaped_tx (a : List Str) (h : ∀ x ∈ a, NameOk x) : SeqAt.shaped (txD a) = true := by
  unfold SeqAt.shaped
  rw [depth_tx]
  have : ∀ s : List Str, (∀ x ∈ s, NameOk x) → PyData.canLayAll0 (s.map PyData.str) = true := fun s => by
    induction s with
    | nil => exact fun _ => rfl
    | cons x s ih =>
      intro h
      rw [List.map_cons]
      simp only [PyData.canLayAll0, PyData.canLay0, ih fun y hy => h y (List.mem_cons_of_mem _ hy), name_strOk (h x List.mem_cons_self), Bool.and_true]
  unfold txD
  simp only [PyData.canLay0, this a h, Bool.true_and]
  rfl
theorem sel_mem {ns : List Str} {r : List Int} : ∀ {hs : List (Str × List (List Int))}, r ∈ selR ns hs → ∃ h ∈ hs, h.1 ∈ ns ∧ r ∈ h.2
  | [], hr => (nomatch hr)
  | h :: hs, hr => by
    have e : selR ns (h :: hs) = (if h.1 ∈ ns then h.2 else []) ++ selR ns hs := rfl
    rw [e] at hr
    rcases List.mem_append.mp hr with hr | hr
    · by_cases hn : h.1 ∈ ns
      · rw [if_pos hn] at hr
        exact ⟨h, List.mem_cons_self, hn, hr⟩
      · rw [if_neg hn] at hr
        exact (nomatch hr)
    · obtain ⟨x, mx, a, b⟩ := sel_mem hr
      exact ⟨x, List.mem_cons_of_mem _ mx, a, b⟩
theorem mem_sel {ns : List Str} {r : List Int} : ∀ {hs : List (Str × List (List Int))} {h : Str × List (List Int)}, h ∈ hs → h.1 ∈ ns → r ∈ h.2 → r ∈ selR ns hs
  | [], _, hh, _, _ => (nomatch hh)
  | x :: hs, h, hh, hn, hr => by
    have e : selR ns (x :: hs) = (if x.1 ∈ ns then x.2 else []) ++ selR ns hs := rfl
    rw [e]
    rcases List.mem_cons.mp hh with rfl | hh
    · rw [if_pos hn]
      exact List.mem_append_left _ hr
    · exact List.mem_append_right _ (mem_sel hh hn hr)
end OC
set_option Elab.async false
set_option linter.all false
set_option maxRecDepth 100000
set_option maxHeartbeats 4000000
/-! partings of a group; comprehensions with two clauses -/
namespace OC
open PySem PySem.Spec PyProof.Rows L2 PySem.W
/-! ### two clauses -/
/-! ### partings as data -/
def ptD (s : List (List Str)) : PyData := .tuple (s.map txD)
/-! ### the splits of some names -/
def growR (x : Str) (s : List (List Str)) : List (List (List Str)) := (List.range s.length).map (fun k => s.take k ++ ([s.getD k [] ++ [x]] ++ s.drop (k + 1))) ++ [s ++ [[x]]]
def splitsR (ns : List Str) : List (List (List Str)) := ns.foldl (fun acc x => acc.flatMap (growR x)) [[]]
structure SplitOk (ns : List Str) (s : List (List Str)) : Prop where
  pm : s.flatten.Perm ns
  ne : ∀ p ∈ s, p ≠ []
  le : s.length ≤ ns.length
theorem grow_mem {x : Str} {s t : List (List Str)} (h : t ∈ growR x s) : (∃ k, k < s.length ∧ t = s.take k ++ ([s.getD k [] ++ [x]] ++ s.drop (k + 1))) ∨ t = s ++ [[x]] := by
  unfold growR at h
  rcases List.mem_append.mp h with h | h
  · obtain ⟨k, mk, rfl⟩ := List.mem_map.mp h
    exact .inl ⟨k, List.mem_range.mp mk, rfl⟩
  · exact .inr (List.mem_singleton.mp h)
theorem split_at {s : List (List Str)} {k : Nat} (h : k < s.length) : s = s.take k ++ ([s.getD k []] ++ s.drop (k + 1)) := by
  have e : s.getD k [] = s[k] := by rw [List.getD_eq_getElem?_getD, List.getElem?_eq_getElem h]; rfl
  rw [e]
  have : [s[k]] ++ s.drop (k + 1) = s.drop k := (List.drop_eq_getElem_cons h).symm
  rw [this, List.take_append_drop]
theorem grow_ok {ns : List Str} {x : Str} {s t : List (List Str)} (o : SplitOk ns s) (h : t ∈ growR x s) : SplitOk (ns ++ [x]) t := by
  rcases grow_mem h with ⟨k, hk, rfl⟩ | rfl
  · have es := split_at hk
    refine ⟨?_, fun p hp => ?_, ?_⟩
    · have pm := o.pm
      rw [es] at pm
      simp only [List.flatten_append, List.flatten_cons, List.flatten_nil, List.append_nil] at pm ⊢
      refine List.Perm.trans ?_ (pm.append_right [x])
      simp only [List.append_assoc]
      refine List.Perm.append_left _ (List.Perm.append_left _ ?_)
      exact List.perm_append_comm
    · rcases List.mem_append.mp hp with hp | hp
      · exact o.ne p (List.mem_of_mem_take hp)
      · rcases List.mem_append.mp hp with hp | hp
        · rw [List.mem_singleton.mp hp]
          simp
        · exact o.ne p (List.mem_of_mem_drop hp)
    · have := o.le
      simp only [List.length_append, List.length_take, List.length_drop, List.length_cons, List.length_nil]
      omega
  · refine ⟨?_, fun p hp => ?_, ?_⟩
    · rw [List.flatten_append]
      exact o.pm.append_right [x]
    · rcases List.mem_append.mp hp with hp | hp
      · exact o.ne p hp
      · rw [List.mem_singleton.mp hp]
        simp
    · have := o.le
      simp only [List.length_append, List.length_cons, List.length_nil]
      omega
theorem splits_okF : ∀ (ns ms : List Str) (acc : List (List (List Str))), (∀ s ∈ acc, SplitOk ms s) → ∀ t ∈ ns.foldl (fun acc x => acc.flatMap (growR x)) acc, SplitOk (ms ++ ns) t
  | [], ms, acc, h, t, ht => by rw [List.append_nil]; exact h t ht
  | x :: ns, ms, acc, h, t, ht => by
    have := splits_okF ns (ms ++ [x]) (acc.flatMap (growR x)) (fun s hs => by
      obtain ⟨u, mu, hu⟩ := List.mem_flatMap.mp hs
      exact grow_ok (h u mu) hu) t ht
    rwa [List.append_assoc] at this
theorem splits_ok {ns : List Str} {s : List (List Str)} (h : s ∈ splitsR ns) : SplitOk ns s := by
  have := splits_okF ns [] [[]] (fun s hs => by
    rw [List.mem_singleton.mp hs]
    exact ⟨.refl _, fun p hp => (nomatch hp), Nat.le_refl _⟩) s h
  exact this
/-- all partings of a group, rising -/
def partingsR (ns : List Str) : List (List (List Str)) := ((splitsR ns).filter fun s => decide (s.length > 1)).mergeSort (dataLe false ptD)
theorem partings_mem {ns : List Str} {s : List (List Str)} : s ∈ partingsR ns ↔ s ∈ splitsR ns ∧ 1 < s.length := by
  unfold partingsR
  rw [(List.mergeSort_perm _ _).mem_iff, List.mem_filter]
  exact ⟨fun h => ⟨h.1, of_decide_eq_true h.2⟩, fun h => ⟨h.1, decide_eq_true h.2⟩⟩
end OC
set_option Elab.async false
set_option linter.all false
set_option maxRecDepth 100000
set_option maxHeartbeats 4000000
/-! how much hands know together: partings of a group -/
namespace OC
open PySem PySem.Spec PyProof.Rows L2
/-- what a look at a stand asks of it -/
structure StandR (p : Int) (n : Nat) (kn : List (List Int)) (hs : List (Str × List (List Int))) : Prop where
  fld : Fld p
  p1 : p ≤ 1000
  n1 : 1 ≤ n
  n8 : n ≤ 8
  ok : RowsOk p n kn
  lk : kn.length ≤ 8
  many : hs.length ≤ 9
  rm : ∀ x ∈ hs, RowsOk p n x.2
  lr : ∀ x ∈ hs, x.2.length ≤ 8
theorem Stand5.toR {p : Int} {n : Nat} {kn : List (List Int)} {hs : List (Str × List (List Int))} (S : Stand5 p n kn hs) : StandR p n kn hs where
  fld := S.fld
  p1 := S.p1
  n1 := S.n1
  n8 := S.n8
  ok := S.pk.1
  lk := Nat.le_trans (PFR.len S.fld S.pk) S.n8
  many := S.many
  rm := fun x hx => (S.ph x hx).1
  lr := fun x hx => Nat.le_trans (PFR.len S.fld (S.ph x hx)) S.n8
/-- how much some hands know together beyond the calls -/
def sizeR (p : Int) (n : Nat) (kn : List (List Int)) (hs : List (Str × List (List Int))) (ns : List Str) : Int := ((plainR p n (kn ++ selR ns hs)).length : Int) - (kn.length : Int)
end OC
set_option Elab.async false
set_option linter.all false
set_option maxRecDepth 100000
set_option maxHeartbeats 4000000
/-! sorted of a tuple of data -/
set_option Elab.async false
set_option linter.all false
set_option maxRecDepth 100000
set_option maxHeartbeats 4000000
/-! asides: a call that tells the one and not the other -/
set_option Elab.async false
set_option linter.all false
set_option maxRecDepth 100000
set_option maxHeartbeats 4000000
/-! dict() of a tuple of pairs -/
namespace OC
open PySem PySem.Spec PyProof.Rows L2
theorem pairs_in {X : Cx} {pins : List (Addr × Obj)} {σ : L2.St} {H : Hp} {s : Shared} (I : L2.Inv X pins σ H s) : ∀ {ps : List Addr} {kvs : List (L2.Key × V)}, Paired (fun p kv => SqT X.K H p [kV kv.1, kv.2]) ps kvs →
    ∃ (prs : List (L2.Key × Value)) (vps : List (Value × Value)), KV kvs prs ∧ prs.length = ps.length ∧ vps.length = ps.length ∧
      ∀ (j : Nat) (k v : Value), vps[j]? = some (k, v) → (∃ b, ps[j]? = some b ∧ PairAt s.heap b k v) ∧ ∃ q, prs[j]? = some (q, v) ∧ keyIs q k = true
  | _, _, .nil => ⟨[], [], .nil, rfl, rfl, fun j k v e => by simp at e⟩
  | _, _, .cons (a := p) (b := kv) h t => by
    obtain ⟨prs, vps, r, hl, hv, hp⟩ := pairs_in I t
    obtain ⟨its, rv, ht, _⟩ := I.tuple h
    obtain ⟨u, y, ei, ru, ry⟩ := vals2 rv
    subst ei
    refine ⟨(kv.1, y) :: prs, (u, y) :: vps, .cons ⟨rfl, ry⟩ r, by rw [List.length_cons, List.length_cons, hl], by rw [List.length_cons, List.length_cons, hv], fun j k v e => ?_⟩
    cases j with
    | zero =>
      have e' : (u, y) = (k, v) := Option.some.inj e
      cases e'
      refine ⟨⟨p, rfl, .inl ?_⟩, kv.1, rfl, kV_is (P := X.prog) (w := X.w) ru⟩
      obtain ⟨o, h1, h2, n, h3⟩ := ht
      exact ⟨o, h1, h2, n, h3⟩
    | succ j =>
      obtain ⟨⟨b, e1, e2⟩, q, e3, e4⟩ := hp j k v (by simpa using e)
      exact ⟨⟨b, by simpa using e1, e2⟩, q, by simpa using e3, e4⟩
/-- dict(t) of a tuple of pairs: as that of a list -/
theorem call_dictT {X : Cx} (hcalm : X.calm = true) : CallR X (.type "dict") (fun xs H Q => ∃ (a : Addr) (ps : List Addr) (kvs : List (L2.Key × V)), xs = [.ref a] ∧ TupF H a (ps.map V.ref) ∧ Paired (fun p kv => SqT X.K H p [kV kv.1, kv.2]) ps kvs ∧
    ∀ p, H p = none → Q (.ref p) (upd H p (.dK (mergeK [] kvs)))) := by
  intro pins s σ H xs us Q I r q
  obtain ⟨a, ps, kvs, ex, ⟨ob, od, hob⟩, hp, q⟩ := q
  subst ex
  obtain ⟨u, eu, rx⟩ := vals1 r
  subst eu
  cases rx
  obtain ⟨g1, hz, its, rv, o', e', c', n, dat⟩ := I.hok a _ hob
  rw [g1] at e'
  cases e'
  have ei := refs_at rv
  subst ei
  rw [List.length_map] at hz
  obtain ⟨prs, vps, rel, hl, hv, hpr⟩ := pairs_in I hp
  refine PySem.call_dict_pairs (knd := mixKind X.prog X.w) (kvs := prs) (PairArg.tuple a (ps.map Value.ref).toArray (fun j => (ps[j]?).getD 0) vps) (I.ok.hd hcalm) ⟨⟨ob, n, g1, c', od, dat⟩, by simp [hv], fun j k v e => ?_⟩ ⟨by rw [hl, hv], fun j k v e => ?_⟩ (by rw [hv]; exact hz) fun h' tk hd' k => ?_
  · obtain ⟨⟨b, e1, e2⟩, _⟩ := hpr j k v e
    have eg : (ps[j]?).getD 0 = b := by rw [e1]; rfl
    exact ⟨by simp [e1], by show PairAt s.heap ((ps[j]?).getD 0) k v; rw [eg]; exact e2⟩
  · obtain ⟨_, q', e3, e4⟩ := hpr j k v e
    exact ⟨q', e3, e4⟩
  · have hm : (s.heap.objs.size == sysModules) = false := beq_eq_false_iff_ne.mpr (Nat.ne_of_gt I.big)
    have hlen : (mergeK [] kvs).length ≤ sizeLine := by
      refine Nat.le_trans (length_mergeK kvs []) ?_
      rw [List.length_nil, Nat.zero_add, rel.length, hl]
      exact hz
    exact ⟨.ref s.heap.objs.size, upd H s.heap.objs.size (.dK (mergeK [] kvs)), I.laid (t' := tk) (fun b o e => k b o (fun z => nomatch z) e) (Nat.le_refl _) (show ObjOk X.prog X.w _ _ _ (.dK (mergeK [] kvs)) from ⟨hlen, hm, merged [] prs, KV.merge rel .nil, hd'⟩), rfl, q _ (I.hok.fresh (Nat.le_refl _))⟩
end OC
set_option Elab.async false
set_option linter.all false
set_option maxRecDepth 100000
set_option maxHeartbeats 4000000
/-! asides: all calls of a room by five -/
namespace OC
open PySem PySem.Spec PyProof.Rows L2
/-! ### a stand taken by five -/
theorem sel_one : ∀ {hs : List (Str × List (List Int))} {h : Str × List (List Int)}, (hs.map Prod.fst).Nodup → h ∈ hs → selR [h.1] hs = h.2
  | [], _, _, hh => (nomatch hh)
  | x :: hs, h, nd, hh => by
    rw [List.map_cons, List.nodup_cons] at nd
    have none : ∀ {y : Str}, y ∉ hs.map Prod.fst → selR [y] hs = [] := fun {y} ny => by
      unfold selR
      refine List.flatMap_eq_nil_iff.mpr fun z hz => if_neg fun e => ny ?_
      rw [← List.mem_singleton.mp e]
      exact List.mem_map_of_mem hz
    have cons : selR [h.1] (x :: hs) = (if x.1 ∈ [h.1] then x.2 else []) ++ selR [h.1] hs := rfl
    rw [cons]
    rcases List.mem_cons.mp hh with rfl | hh
    · rw [if_pos (List.mem_singleton.mpr rfl), none nd.1, List.append_nil]
    · rw [if_neg (fun e => nd.1 (by rw [List.mem_singleton.mp e]; exact List.mem_map_of_mem hh)), sel_one nd.2 hh]
      rfl
/-! ### the rooms by their names -/
/-- a dict that holds a room for each of those names -/
def RoomsD (K : PySem.W.Frag) (H : Hp) (o : Addr) (hs : List (Str × List (List Int))) : Prop := ∃ kvs : List (L2.Key × V), H o = some (.dK kvs) ∧ ∀ h ∈ hs, ∃ r, valV kvs (.inr h.1) = some (.ref r) ∧ RowsAt K H r h.2
theorem rowsAt_tk {K : PySem.W.Frag} {H H' : Hp} {a : Addr} {rs : List (List Int)} (k : Tk H H') (h : RowsAt K H a rs) : RowsAt K H' a rs := by
  obtain ⟨ws, h1, h2⟩ := h
  exact ⟨ws, k _ _ _ h1, dpAll_tk k _ _ (noL_rows _) h2⟩
theorem RoomsD.same {K : PySem.W.Frag} {H H' : Hp} {o : Addr} {hs : List (Str × List (List Int))} (s : Same H H') (h : RoomsD K H o hs) : RoomsD K H' o hs := by
  obtain ⟨kvs, h1, h2⟩ := h
  refine ⟨kvs, s _ _ h1, fun x hx => ?_⟩
  obtain ⟨r, h3, h4⟩ := h2 x hx
  exact ⟨r, h3, rowsAt_tk (Tk.of s) h4⟩
theorem RoomsD.kept {K : PySem.W.Frag} {H H' : Hp} {o d c : Addr} {t : Int} {hs : List (Str × List (List Int))} (D : Deck H d c t) (k : Kept d c H H') (h : RoomsD K H o hs) : RoomsD K H' o hs := by
  obtain ⟨kvs, h1, h2⟩ := h
  refine ⟨kvs, k _ _ h1 (fun z => by subst z; rw [D.hd] at h1; cases h1) (fun z => by subst z; obtain ⟨_, hc, _⟩ := D.hc; rw [hc] at h1; cases h1), fun x hx => ?_⟩
  obtain ⟨r, h3, h4⟩ := h2 x hx
  exact ⟨r, h3, rowsAt_tk (Tk.kept D k) h4⟩
/-- the stand by five, whose hands' tuple has no dict -/
def FiveAt (K : PySem.W.Frag) (H : Hp) (a : Addr) (n : Nat) (kn : List (List Int)) (hs : List (Str × List (List Int))) : Prop := ∃ (k g : Addr) (ws : List V), SqT K H a [.int 5, .int (n : Int), .ref k, .ref g] ∧ RowsAt K H k kn ∧ TupF H g ws ∧ DpAll K H ws (hs.map handD)
theorem FiveAt.same {K : PySem.W.Frag} {H H' : Hp} {a : Addr} {n : Nat} {kn : List (List Int)} {hs : List (Str × List (List Int))} (s : Same H H') (h : FiveAt K H a n kn hs) : FiveAt K H' a n kn hs := by
  obtain ⟨k, g, ws, h1, h2, h3, h4⟩ := h
  exact ⟨k, g, ws, Same.tup s h1, rowsAt_tk (Tk.of s) h2, h3.same s, dpAll_same s _ _ h4⟩
theorem FiveAt.kept {K : PySem.W.Frag} {H H' : Hp} {a d c : Addr} {t : Int} {n : Nat} {kn : List (List Int)} {hs : List (Str × List (List Int))} (D : Deck H d c t) (e : Kept d c H H') (h : FiveAt K H a n kn hs) : FiveAt K H' a n kn hs := by
  obtain ⟨k, g, ws, h1, h2, ⟨o, h5, h3⟩, h4⟩ := h
  refine ⟨k, g, ws, Kept.tup D e h1, rowsAt_tk (Tk.kept D e) h2, ⟨o, h5, e _ _ h3 (fun z => by subst z; rw [D.hd] at h3; cases h3) (fun z => by subst z; obtain ⟨_, hc, _⟩ := D.hc; rw [hc] at h3; cases h3)⟩, dpAll_tk (Tk.kept D e) _ _ (noL_hands _) h4⟩
theorem FiveAt.dp {K : PySem.W.Frag} {H : Hp} {a : Addr} {n : Nat} {kn : List (List Int)} {hs : List (Str × List (List Int))} (h : FiveAt K H a n kn hs) : Dp K H (.ref a) (standD 5 n kn hs) := by
  obtain ⟨k, g, ws, h1, ⟨wk, h2, h3⟩, h4, h5⟩ := h
  exact .tup h1 (.cons (.int 5) (.cons (.int n) (.cons (.tup h2 h3) (.cons (.tup h4.sq h5) .nil))))
end OC
set_option Elab.async false
set_option linter.all false
set_option maxRecDepth 100000
set_option maxHeartbeats 2000000
/-! zip of a tuple and a list -/
namespace OC
open PySem PySem.Spec PyProof.Rows L2
/-- the tuple at a and the list at b as they stand at each turn, the items in new pairs -/
def ItzN (K : PySem.W.Frag) (a b : Addr) : It :=
  ⟨fun i H => ∃ (xs ys : List V) (x y : V), SqT K H a xs ∧ SqL K H b ys ∧ xs[i]? = some x ∧ ys[i]? = some y,
    fun i H v H' => ∃ T x y, v = .ref T ∧ H T = none ∧ H' = upd H T (.tup [x, y]) ∧ (∀ xs, SqT K H a xs → xs[i]? = some x) ∧ ∀ ys, SqL K H b ys → ys[i]? = some y,
    fun i H => ∃ xs ys : List V, SqT K H a xs ∧ SqL K H b ys ∧ i ≤ xs.length ∧ i ≤ ys.length ∧ (i = xs.length ∨ i = ys.length)⟩
theorem turn_zipN {P : Program} {w : World} {K : PySem.W.Frag} {elts : List Expr} {kk : Nat} {tpos : Pos} {a b z TI TO i1 i2 : Addr} (D : ZipApart z TI TO i1 i2 a b) :
    Turn P w K (.Tuple elts kk tpos) (ItzN K a b) [z, TI, TO, i1, i2] z (fun i h => IsZip h z TI TO .none ∧ IsTupOf2 h TI (.ref i1) (.ref i2) ∧ (∃ x y, IsTupOf2 h TO x y) ∧ h.IsTupleIter i1 a i ∧ h.IsListIter i2 b i) where
  mem := by simp
  obj := fun i h st c hc => by
    obtain ⟨hz, hTI, ⟨x, y, hTO⟩, ⟨o1, e1, _, d1⟩, ⟨o2, e2, _, d2⟩⟩ := st
    have e' : c = z ∨ c = TI ∨ c = TO ∨ c = i1 ∨ c = i2 := by simpa using hc
    rcases e' with q | q | q | q | q
    · rw [q]; exact ⟨_, hz, fun v q => nomatch q⟩
    · rw [q]; exact ⟨_, hTI, fun v q => nomatch q⟩
    · rw [q]; exact ⟨_, hTO, fun v q => nomatch q⟩
    · rw [q]; exact ⟨o1, e1, fun v q => by rw [d1] at q; cases q⟩
    · rw [q]; exact ⟨o2, e2, fun v q => by rw [d2] at q; cases q⟩
  keep := fun i h h' st k => by
    obtain ⟨hz, hTI, ⟨x, y, hTO⟩, h1, h2⟩ := st
    exact ⟨k z (by simp) _ hz, k TI (by simp) _ hTI, ⟨x, y, k TO (by simp) _ hTO⟩, h1.at fun o q => k i1 (by simp) o q, h2.at fun o q => k i2 (by simp) o q⟩
  item := by
    intro X hP hw hK hc i pins s σ H E I hf st hg
    subst hP hw hK
    obtain ⟨hz, hTI, ⟨x0, y0, hTO⟩, h1, h2⟩ := st
    obtain ⟨xs, ys, x, y, hqx, hqy, hx, hy⟩ := hg
    obtain ⟨its, rv, p, _⟩ := I.tuple hqx
    obtain ⟨its2, rv2, p2, _⟩ := I.list hqy
    obtain ⟨u, hu, ru⟩ := rv.get hx
    obtain ⟨u2, hu2, ru2⟩ := rv2.get hy
    have hzl : z < s.heap.objs.size := Heap.lt_size hz
    have hh : X.A.in1.handled = none := I.ok.hd hc
    refine wpAny_pyNext_zipD2_item (sep_of D) (Draws.tuple hh i1 a D.l1i1 its.toArray) (Draws.list hh i2 b D.l2i2 its2.toArray) hz hTI hTO ⟨h1, p⟩ ⟨h2, p2.isList⟩ ?_ ?_ fun x1 x2 h' tk y1 y2 z' TO' st1' st2' hT hsz hk => ?_
    · have := (List.getElem?_eq_some_iff.mp hu).1
      simpa using this
    · have := (List.getElem?_eq_some_iff.mp hu2).1
      simpa using this
    have e1 : x1 = u := by
      have : its[i]? = some x1 := by simpa using y1
      rw [hu] at this
      exact (Option.some.inj this).symm
    have e2 : x2 = u2 := by
      have : its2[i]? = some x2 := by simpa using y2
      rw [hu2] at this
      exact (Option.some.inj this).symm
    subst e1 e2
    refine ⟨_, rfl, wpAny_letOwnedTupleGo_zip (s := { s with heap := h', toks := tk }) z' fun h'' z'' sb => ?_⟩
    have hT2 : h''.get? s.heap.objs.size = some { cls := .type "tuple", data := .seq #[x1, x2] } := (sb.2 _ (Nat.ne_of_gt hzl)).trans hT
    have new : ObjOk X.prog X.w (upd H s.heap.objs.size (.tup [x, y])) h'' s.heap.objs.size (.tup [x, y]) :=
      ⟨by show 2 ≤ sizeLine; decide, [x1, x2], .cons ru (.cons ru2 .nil), ⟨_, hT2, rfl, _, rfl⟩⟩
    have I1 : Inv X pins σ (upd H s.heap.objs.size (.tup [x, y])) { s with heap := h'', toks := tk } :=
      I.turnedNew (t' := tk) (ch := [z, TI, TO, i1, i2]) (fun c o hb q => (sb.2 c (fun q' => hb (by simp [q']))).trans (hk c o (fun q' => hb (by simp [q'])) (fun q' => hb (by simp [q'])) (fun q' => hb (by simp [q'])) (fun q' => hb (by simp [q'])) q)) hf (Nat.le_refl _) new
    refine ⟨.ref s.heap.objs.size, _, I1, rfl, ⟨_, x, y, rfl, I.hok.fresh (Nat.le_refl _), rfl, fun l hl => by rw [I.tuple_inj hl hqx]; exact hx, fun l hl => by rw [I.list_inj hl hqy]; exact hy⟩, ⟨z'', ?_, ⟨x1, x2, ?_⟩, ?_, ?_⟩, fun c hcm => ?_⟩
    · exact (sb.2 _ D.TIz).trans (hk _ _ D.TIz D.TITO D.TIi1 D.TIi2 hTI)
    · exact (sb.2 _ D.TOz).trans TO'
    · exact st1'.1.at fun o q => (sb.2 _ D.i1z).trans q
    · exact st2'.1.at fun o q => (sb.2 _ D.i2z).trans q
    · have hlt : c < s.heap.objs.size := by
        have e' : c = z ∨ c = TI ∨ c = TO ∨ c = i1 ∨ c = i2 := by simpa using hcm
        rcases e' with q | q | q | q | q
        · rw [q]; exact hzl
        · rw [q]; exact Heap.lt_size hTI
        · rw [q]; exact Heap.lt_size hTO
        · rw [q]; obtain ⟨_, e1, _⟩ := h1; exact Heap.lt_size e1
        · rw [q]; obtain ⟨_, e2, _⟩ := h2; exact Heap.lt_size e2
      rw [upd_ne (Nat.ne_of_lt hlt)]
      exact (hf c hcm).1
  done := by
    intro X hP hw hK hc i pins s σ H E I hf st hg
    subst hP hw hK
    obtain ⟨hz, hTI, ⟨x0, y0, hTO⟩, h1, h2⟩ := st
    obtain ⟨xs, ys, hqx, hqy, le1, le2, hend⟩ := hg
    obtain ⟨its, rv, p, _⟩ := I.tuple hqx
    obtain ⟨its2, rv2, p2, _⟩ := I.list hqy
    have l1 := rv.length
    have l2 := rv2.length
    have hh : X.A.in1.handled = none := I.ok.hd hc
    have sz1 : its.toArray.size = its.length := by simp
    have sz2 : its2.toArray.size = its2.length := by simp
    exact wpAny_pyNext_zipD2_end (sep_of D) (Draws.tuple hh i1 a D.l1i1 its.toArray) (Draws.list hh i2 b D.l2i2 its2.toArray) hz hTI hTO ⟨h1, p⟩ ⟨h2, p2.isList⟩ (by omega) (by omega) (by omega) fun h' tk hk => ⟨rfl, I.turnedL (t' := tk) (ch := [z, TI, TO, i1, i2]) (fun c o hb q =>
      hk c o (fun q' => hb (by simp [q'])) (fun q' => hb (by simp [q'])) (fun q' => hb (by simp [q'])) (fun q' => hb (by simp [q'])) q) hf⟩
  self := fun A i s Q E st h => wpAny_pyIter_zip st.1 h
/-- zip(xs, ys) of a tuple and a list -/
def iZipN (K : PySem.W.Frag) (ta : TA) : TI := fun σ H R => ta σ H fun vs H1 => ∃ a b xs ys, vs = [.ref a, .ref b] ∧ SqT K H1 a xs ∧ SqL K H1 b ys ∧ R (ItzN K a b) H1
theorem pi_zipN {X : Cx} {e e2 : Expr} {ta : TA} {p pos tpos : Pos} {elts : List Expr} {kk : Nat} (hg : Gl X "zip") (hm : X.mg "zip" = none) (ha : PA X [e, e2] ta)
    (hs : starEach [e, e2] X.env = (false, eval e X.env) :: starEach [e2] X.env := by rfl) (hpl : (backTo pos (starEach [e2] X.env)).any (·.1) = false := by rfl) :
    PI X (.Tuple elts kk tpos) (.Call (.Name "zip" p) [e, e2] [] pos) (iZipN X.K ta) := by
  refine ⟨fun pins s σ H R I h => ?_⟩
  refine Call_ (ld_blt I hg hm PyProof.Rows.boot_zip (PyProof.Rows.callWith_type1 (thn (ha.run pos pins s σ H _ I h) fun us s1 ⟨vs, H1, I1, r1, q1⟩ => ?_) hs hpl))
  obtain ⟨a, b, xs, ys, ex, hqx, hqy, q⟩ := q1
  subst ex
  cases r1 with
  | cons r rr =>
    cases rr with
    | cons r' rr =>
      cases rr
      cases r
      cases r'
      have fresh5 : ∀ c, c ∈ [s1.heap.objs.size + 4, s1.heap.objs.size + 2, s1.heap.objs.size + 3, s1.heap.objs.size, s1.heap.objs.size + 1] → FpOk X pins H1 c := fun c hcm => by
        have hle : s1.heap.objs.size ≤ c := by
          have e' : c = s1.heap.objs.size + 4 ∨ c = s1.heap.objs.size + 2 ∨ c = s1.heap.objs.size + 3 ∨ c = s1.heap.objs.size ∨ c = s1.heap.objs.size + 1 := by simpa using hcm
          rcases e' with z | z | z | z | z
          · rw [z]; exact Nat.le_add_right _ _
          · rw [z]; exact Nat.le_add_right _ _
          · rw [z]; exact Nat.le_add_right _ _
          · rw [z]; exact Nat.le_refl _
          · rw [z]; exact Nat.le_add_right _ _
        exact I1.fpOk hle (I1.hok.fresh hle)
      obtain ⟨its, rv, p1, _⟩ := I1.tuple hqx
      obtain ⟨its2, rv2, p2, _⟩ := I1.list hqy
      obtain ⟨o1, ho1, _⟩ := id p1
      refine zip_begins2 (begins_tuple a its.toArray) (begins_list b its2.toArray) (show s1.heap.IsTuple a its.toArray from p1) p2.isList fun h' hz hTI hTO h1 h2 hsz hk => wpAny_pyIter_zip hz ?_
      have I2 : Inv X pins σ H1 { s1 with heap := h' } := I1.kept (t' := s1.toks) hk
      exact ⟨s1.heap.objs.size + 4, [s1.heap.objs.size + 4, s1.heap.objs.size + 2, s1.heap.objs.size + 3, s1.heap.objs.size, s1.heap.objs.size + 1], _, _, H1, rfl, I2, turn_zipN (PySem.W.ktu_apart s1.heap.objs.size a b (Heap.lt_size ho1) p2.lt), ⟨hz, hTI, ⟨_, _, hTO⟩, ⟨_, h1, rfl, rfl⟩, ⟨_, h2, rfl, rfl⟩⟩, fresh5, q⟩
theorem walk_zipN {K : PySem.W.Frag} {a b : Addr} {xs ys : List V} {n : Nat} (hn : n = min xs.length ys.length) : Walk (ItzN K a b) n (fun H => SqT K H a xs ∧ SqL K H b ys) (YPair (fun i => xs[i]?) (fun i => ys[i]?)) where
  goes i H hi q := by
    have hx : i < xs.length := by rw [hn] at hi; exact Nat.lt_of_lt_of_le hi (Nat.min_le_left _ _)
    have hy : i < ys.length := by rw [hn] at hi; exact Nat.lt_of_lt_of_le hi (Nat.min_le_right _ _)
    exact ⟨xs, ys, _, _, q.1, q.2, List.getElem?_eq_getElem hx, List.getElem?_eq_getElem hy⟩
  stops H q := ⟨xs, ys, q.1, q.2, by omega, by omega, by omega⟩
  yields i H v H' _ q y := by
    obtain ⟨T, x, z, ev, nT, eH, gx, gz⟩ := y
    exact ⟨T, x, z, ev, nT, eH, gx xs q.1, gz ys q.2⟩
end OC
set_option Elab.async false
set_option linter.all false
set_option maxRecDepth 100000
set_option maxHeartbeats 4000000
namespace OC
open PySem PySem.Spec PyProof.Rows L2 Lin
/-- the contrary rest, looked for from 0 on -/
theorem ctr_first0 {p : Int} (hF : Fld p) {a : Int} (h0 : 1 ≤ a) (h1 : a < p) : (((List.range p.toNat).map fun (i : Nat) => ((i : Nat) : Int)).filter fun k => decide (k * a % p = 1))[0]? = some (ctr p a) := by
  have ec : (fun k : Int => decide (k * a % p = 1)) = fun b => decide (a * b % p = 1) := by
    funext k
    rw [Int.mul_comm]
  rw [ec]
  have hc := ctr_ok hF h0 h1
  have hh : ctr p a = (((List.range p.toNat).map fun (i : Nat) => ((i : Nat) : Int)).filter fun b => decide (a * b % p = 1)).headD 0 := rfl
  generalize hL : ((List.range p.toNat).map fun (i : Nat) => ((i : Nat) : Int)).filter (fun b => decide (a * b % p = 1)) = L at hh ⊢
  cases L with
  | nil =>
    rw [show ([] : List Int).headD 0 = 0 from rfl] at hh
    rw [hh, Int.mul_zero, Int.zero_emod] at hc
    exact absurd hc.2.2 (by decide)
  | cons x L => rw [hh]; rfl
end OC
set_option Elab.async false
set_option linter.all false
set_option maxRecDepth 100000
set_option maxHeartbeats 4000000
/-! a stand whose hands' tuple has no dict, and its rooms by their names -/
namespace OC
open PySem PySem.Spec PyProof.Rows L2
def StandAt (K : PySem.W.Frag) (H : Hp) (a : Addr) (p : Int) (n : Nat) (kn : List (List Int)) (hs : List (Str × List (List Int))) : Prop := ∃ (k g : Addr) (ws : List V), SqT K H a [.int p, .int (n : Int), .ref k, .ref g] ∧ RowsAt K H k kn ∧ TupF H g ws ∧ DpAll K H ws (hs.map handD)
section
variable {K : PySem.W.Frag} {H H' : Hp} {a d c o : Addr} {t p : Int} {n : Nat} {kn : List (List Int)} {hs : List (Str × List (List Int))}
theorem StandAt.same (s : Same H H') (h : StandAt K H a p n kn hs) : StandAt K H' a p n kn hs := by
  obtain ⟨k, g, ws, h1, h2, h3, h4⟩ := h
  exact ⟨k, g, ws, Same.tup s h1, rowsAt_tk (Tk.of s) h2, h3.same s, dpAll_same s _ _ h4⟩
theorem StandAt.kept (D : Deck H d c t) (e : Kept d c H H') (h : StandAt K H a p n kn hs) : StandAt K H' a p n kn hs := by
  obtain ⟨k, g, ws, h1, h2, ⟨o, h5, h3⟩, h4⟩ := h
  refine ⟨k, g, ws, Kept.tup D e h1, rowsAt_tk (Tk.kept D e) h2, ⟨o, h5, e _ _ h3 (fun z => by subst z; rw [D.hd] at h3; cases h3) (fun z => by subst z; obtain ⟨_, hc, _⟩ := D.hc; rw [hc] at h3; cases h3)⟩, dpAll_tk (Tk.kept D e) _ _ (noL_hands _) h4⟩
theorem StandAt.dp (h : StandAt K H a p n kn hs) : Dp K H (.ref a) (standD p n kn hs) := by
  obtain ⟨k, g, ws, h1, ⟨wk, h2, h3⟩, h4, h5⟩ := h
  exact .tup h1 (.cons (.int p) (.cons (.int n) (.cons (.tup h2 h3) (.cons (.tup h4.sq h5) .nil))))
/-- rooms[x] -/
theorem RoomsD.get (h : RoomsD K H o hs) {z : Str × List (List Int)} (mz : z ∈ hs) : ∃ r, DGet H o (.str z.1) (some (.ref r)) ∧ RowsAt K H r z.2 := by
  obtain ⟨kvs, h1, h2⟩ := h
  obtain ⟨r, h3, h4⟩ := h2 z mz
  refine ⟨r, ?_, h4⟩
  have := DGet.k (k := (Sum.inr z.1 : L2.Key)) h1
  rw [h3] at this
  exact this
/-- a hand's room is what it knows with the calls -/
theorem Stand5.own (S : Stand5 p n kn hs) {z : Str × List (List Int)} (mz : z ∈ hs) : plainR p n (kn ++ selR [z.1] hs) = z.2 := by
  rw [sel_one S.nd mz]
  have pz := S.ph z mz
  refine (plain_same S.fld (rowsOk_app S.pk.1 pz.1) pz.1 (fun r hr => ?_) fun r hr => InR.mem (List.mem_append_right _ hr)).trans pz.2
  rcases List.mem_append.mp hr with hr | hr
  · exact S.inn z mz r hr
  · exact InR.mem hr
end
end OC
set_option Elab.async false
set_option linter.all false
set_option maxRecDepth 100000
set_option maxHeartbeats 4000000
/-! max(xs, key=lambda x: x[0]) over a list of new tuples whose first thing is a whole number -/
namespace OC
open PySem PySem.Spec PyProof.Rows L2 LamX
/-- all but the frames' slots is as it was -/
structure Still (fs : List Addr) (h h' : Heap) : Prop where
  keep : ∀ b o, h.get? b = some o → b ∉ fs → h'.get? b = some o
  slot : ∀ b o, h.get? b = some o → ∃ sl, h'.get? b = some { o with slots := sl }
theorem Still.refl (fs : List Addr) (h : Heap) : Still fs h h := ⟨fun _ _ e _ => e, fun _ o e => ⟨o.slots, e⟩⟩
theorem Still.trans {fs : List Addr} {h h1 h2 : Heap} (a : Still fs h h1) (b : Still fs h1 h2) : Still fs h h2 := ⟨fun x o e n => b.keep x o (a.keep x o e n) n, fun x o e => by
  obtain ⟨s1, e1⟩ := a.slot x o e
  obtain ⟨s2, e2⟩ := b.slot x _ e1
  exact ⟨s2, e2⟩⟩
theorem Still.of {fs : List Addr} {h h' : Heap} (k : ∀ b o, h.get? b = some o → h'.get? b = some o) : Still fs h h' := ⟨fun b o e _ => k b o e, fun b o e => ⟨o.slots, k b o e⟩⟩
end OC
set_option Elab.async false
set_option linter.all false
set_option maxRecDepth 100000
set_option maxHeartbeats 2000000
/-! tables of code objects: what stays where a lambda is made; the end with one table and the modules' dict -/
namespace OC
open PySem PySem.Spec PyProof.Rows L2 LamX
/-! ### what stays -/
theorem ExtN.same {H H' : Hp} (e : Same H H') : ExtN H H' := fun b o h _ => e b o h
theorem ExtN.tk {H H' : Hp} (e : ExtN H H') : Tk H H' := fun K a xs h => by
  rcases h with (h | ⟨o, h⟩) | h
  · exact .inl (.inl (e _ _ h fun ps z => by cases z))
  · exact .inl (.inr ⟨o, e _ _ h fun ps z => by cases z⟩)
  · exact .inr h
theorem ExtN.lst {H H' : Hp} (e : ExtN H H') {a : Addr} {xs : List V} (h : H a = some (.lst xs)) : H' a = some (.lst xs) := e _ _ h fun ps z => by cases z
theorem ExtN.tup {H H' : Hp} (e : ExtN H H') {a : Addr} {xs : List V} (h : H a = some (.tup xs)) : H' a = some (.tup xs) := e _ _ h fun ps z => by cases z
/-- all but the deck's two lists and the tables stays -/
def KeptN (d c : Addr) (H H' : Hp) : Prop := ∀ b o, H b = some o → b ≠ d → b ≠ c → (∀ ps, o ≠ .tbl ps) → H' b = some o
theorem KeptN.refl (d c : Addr) (H : Hp) : KeptN d c H H := fun _ _ h _ _ _ => h
theorem KeptN.trans {d c : Addr} {H H1 H2 : Hp} (a : KeptN d c H H1) (b : KeptN d c H1 H2) : KeptN d c H H2 := fun x o h n m t => b x o (a x o h n m t) n m t
theorem KeptN.of {d c : Addr} {H H' : Hp} (a : Kept d c H H') : KeptN d c H H' := fun x o h n m _ => a x o h n m
theorem KeptN.ext {d c : Addr} {H H' : Hp} (a : ExtN H H') : KeptN d c H H' := fun x o h _ _ t => a x o h t
section
variable {T : List (Addr × Str)} {H H' : Hp}
theorem Tabs.same (t : Tabs T H) (e : Same H H') : Tabs T H' := t.ext e
/-- tables stay where all but two lists stays -/
theorem Tabs.kept {d c : Addr} {xs ys : List V} (t : Tabs T H) (hd : H d = some (.lst xs)) (hc : H c = some (.lst ys)) (k : Kept d c H H') : Tabs T H' := fun p hp => by
  obtain ⟨ps, h1, h2, h3⟩ := t p hp
  have nd : ∀ {b : Addr} {o : HO}, H b = some o → (∀ zs, o ≠ .lst zs) → b ≠ d ∧ b ≠ c := fun {b o} e n => ⟨fun z => by
    rw [z, hd] at e
    exact n _ (Option.some.inj e).symm, fun z => by
    rw [z, hc] at e
    exact n _ (Option.some.inj e).symm⟩
  obtain ⟨n1, n2⟩ := nd h1 (fun zs z => by cases z)
  refine ⟨ps, k _ _ h1 n1 n2, h2, fun pos cv hcv => ?_⟩
  obtain ⟨co, e1, e2⟩ := h3 pos cv hcv
  obtain ⟨m1, m2⟩ := nd e2 (fun zs z => by
    unfold CodeO at z
    cases z)
  exact ⟨co, e1, k _ _ e2 m1 m2⟩
end
/-! ### the end -/
end OC
set_option Elab.async false
set_option linter.all false
set_option maxRecDepth 100000
set_option maxHeartbeats 4000000
/-! a def whose code object is known -/
namespace OC
open PySem PySem.Spec PyProof.Rows L2 LamX
/-- a def by name, its code object at c -/
structure DfC (K : PySem.W.Frag) (mg : Str → Option Value) (x : Str) (st : Stmt) (ps : List Str) (c : Addr) : Prop where
  ex : ∃ (f : Addr) (oc : Value) (od an : Option Addr) (kV doc pm ct : Value) (osl : Array (Option Value)),
    K.lookup f = some ⟨oc, od, .func (PySem.W.fnOf x x (defArgs st) (defBody st) (defScope st) .none kV doc pm an (.ref c) ct), osl⟩ ∧ PySem.W.codeIn K (.ref c) x = true ∧ PySem.W.keepIn K (.ref f) = true ∧ mg x = some (.ref f) ∧
    Binds K (PySem.W.fnOf x x (defArgs st) (defBody st) (defScope st) .none kV doc pm an (.ref c) ct) ps []
section
variable {P : Program} {w : World} {K : PySem.W.Frag} {mg : Str → Option Value} {base : Heap}
theorem DfC.ok {x : Str} {st : Stmt} {N ps : List Str} {k : Nat} {c : Addr} {sp : Sp} (D : DfC K mg x st ps c) (S : FnScope N ps (defScope st)) (len : ∀ vs H Q E, sp vs H Q E → vs.length = ps.length)
    (hbody : ∀ (f : Addr) (A : Around) (outer : List Env) (s : Shared) (H : Hp) (vs : List V) (Q : VK) (E : XK), Room k (A.deeper (envOfC x (defScope st) s.heap.objs.size f (.ref c))) → sp vs H Q E →
      ∃ t, PSs (cxOf CX0 P w K mg base N x (defScope st) f (.ref c) A outer s H E).nox (defBody st) t ∧ t { nx := fun _ H' => Q .non H', rt := Q } (start N vs) H) : Ok P w K mg base (k + 1) x ps sp := by
  obtain ⟨f, oc, od, an, kV, doc, pm, ct, osl, lk, hc, hk, hm, hb⟩ := D.ex
  refine ⟨f, _, fn_of (CX := CX0) lk hc S len fun A outer s H vs Q E hr hsp => ?_, hm, hk, hb⟩
  obtain ⟨t, ht, hq⟩ := hbody f A outer s H vs Q E hr hsp
  exact ⟨t, ht.nox, hq⟩
end
end OC
set_option Elab.async false
set_option linter.all false
set_option maxRecDepth 100000
set_option maxHeartbeats 4000000
/-! rooms of parts: a dict whose keys are tuples of names -/
namespace OC
open PySem PySem.Spec PyProof.Rows L2
def pk (q : List Str) : List L2.Key := q.map Sum.inr
/-! ### all choices of some names -/
/-! ### the group's hands, in the stand's order -/
/-! ### the rooms -/
/-- the room of a part -/
def roomR (p : Int) (n : Nat) (kn : List (List Int)) (hs : List (Str × List (List Int))) (q : List Str) : List (List Int) := plainR p n (kn ++ selR q hs)
section
variable {p : Int} {n : Nat} {kn : List (List Int)} {hs : List (Str × List (List Int))}
theorem room_rows (S : Stand5 p n kn hs) (q : List Str) : RowsOk p n (kn ++ selR q hs) := rowsOk_app S.pk.1 (sel_ok S.toR.rm)
theorem room_pf (S : Stand5 p n kn hs) (q : List Str) : PFR p n (roomR p n kn hs q) := PFR.of_plain S.fld (room_rows S q)
theorem room_nil (S : Stand5 p n kn hs) : roomR p n kn hs [] = kn := by
  unfold roomR
  have : selR [] hs = [] := by
    unfold selR
    induction hs with
    | nil => rfl
    | cons x hs ih => simp
  rw [this, List.append_nil]
  exact S.pk.2
end
/-! ### the dict -/
/-- the dict at o tells a room f q by each of the parts ps, in this order -/
structure RoomsT (K : PySem.W.Frag) (H : Hp) (o : Addr) (f : List Str → List (List Int)) (ps : List (List Str)) (kvs : List (List L2.Key × V)) : Prop where
  at_ : H o = some (.dT kvs)
  keys : kvs.map (·.1) = ps.map pk
  val : ∀ q ∈ ps, ∃ r, valV kvs (pk q) = some (.ref r) ∧ RowsAt K H r (f q)
section
variable {K : PySem.W.Frag} {H H' : Hp} {o : Addr} {f : List Str → List (List Int)} {ps : List (List Str)} {kvs : List (List L2.Key × V)}
theorem RoomsT.len (h : RoomsT K H o f ps kvs) : kvs.length = ps.length := by
  have := congrArg List.length h.keys
  rwa [List.length_map, List.length_map] at this
theorem RoomsT.same (h : RoomsT K H o f ps kvs) (s : Same H H') : RoomsT K H' o f ps kvs := ⟨s _ _ h.at_, h.keys, fun q hq => by
  obtain ⟨r, a, b⟩ := h.val q hq
  exact ⟨r, a, b.same s⟩⟩
end
end OC
set_option Elab.async false
set_option linter.all false
set_option maxRecDepth 100000
set_option maxHeartbeats 4000000
/-! d[t]: t any tuple that is known, not just one in the heap -/
namespace OC
open PySem PySem.Spec PyProof.Rows L2
theorem nd_take {α : Type} {l : List α} {j : Nat} {x : α} (nd : l.Nodup) (h : l[j]? = some x) : x ∉ l.take j := fun z => by
  obtain ⟨i, hi, e⟩ := List.getElem_of_mem z
  rw [List.length_take] at hi
  rw [List.getElem_take] at e
  obtain ⟨hj, ej⟩ := List.getElem?_eq_some_iff.mp h
  have := (List.getElem_inj (i := i) (j := j) (h₀ := by omega) (h₁ := hj) nd).mp (by rw [e, ej])
  omega
end OC
set_option Elab.async false
set_option linter.all false
set_option maxRecDepth 100000
set_option maxHeartbeats 4000000
/-! the greatest bound; a def whose code object is known -/
namespace OC
open PySem PySem.Spec PyProof.Rows L2 LamX
/-! ### parts of splits stand in the group's order -/
/-! ### the greatest bound -/
def boundOf (z : Int) (ns : List Int) : Int := z - (ns.sum - z) / ((ns.length : Int) - 1)
/-- the bound of a parting, by how much its parts know -/
def boundG (f : List Str → Int) (ms : List Str) (P : List (List Str)) : Int := boundOf (f ms) (P.map f)
/-- the first of the group's partings with the greatest bound -/
structure BestP (f : List Str → Int) (ms : List Str) (P : List (List Str)) : Prop where
  ex : ∃ m : Nat, (partingsR ms)[m]? = some P ∧ ∀ (j : Nat) (P' : List (List Str)), (partingsR ms)[j]? = some P' → boundG f ms P' ≤ boundG f ms P ∧ (j < m → boundG f ms P' < boundG f ms P)
theorem BestP.uniq {f : List Str → Int} {ms : List Str} {P P' : List (List Str)} (a : BestP f ms P) (b : BestP f ms P') : P = P' := by
  obtain ⟨m, hm, am⟩ := a.ex
  obtain ⟨m', hm', bm⟩ := b.ex
  have h1 := am m' P' hm'
  have h2 := bm m P hm
  rcases Nat.lt_trichotomy m m' with h | h | h
  · have := h2.2 h
    omega
  · subst h
    rw [hm] at hm'
    exact Option.some.inj hm'
  · have := h1.2 h
    omega
theorem BestP.mem {f : List Str → Int} {ms : List Str} {P : List (List Str)} (a : BestP f ms P) : P ∈ partingsR ms := by
  obtain ⟨m, hm, _⟩ := a.ex
  exact List.mem_of_getElem? hm
theorem BestP.le {f : List Str → Int} {ms : List Str} {P P' : List (List Str)} (a : BestP f ms P) (h : P' ∈ partingsR ms) : boundG f ms P' ≤ boundG f ms P := by
  obtain ⟨m, hm, am⟩ := a.ex
  obtain ⟨j, hj, e⟩ := List.getElem_of_mem h
  exact (am j P' (by rw [List.getElem?_eq_getElem hj, e])).1
end OC
set_option Elab.async false
set_option linter.all false
set_option maxRecDepth 100000
set_option maxHeartbeats 4000000
/-! dict() of a list of pairs whose keys are tuples; lists of tuples of names that stand in the heap -/
namespace OC
open PySem PySem.Spec PyProof.Rows L2 PySem.W
/-! ### tuples of names in the heap -/
inductive TxAll (H : Hp) : List V → List (List Str) → Prop
  | nil : TxAll H [] []
  | cons {b : Addr} {q : List Str} {ws : List V} {qs : List (List Str)} : H b = some (.tup (q.map V.str)) → TxAll H ws qs → TxAll H (.ref b :: ws) (q :: qs)
theorem txD_inj {q r : List Str} (h : txD q = txD r) : q = r := by
  unfold txD at h
  injection h with h
  induction q generalizing r with
  | nil => cases r with
    | nil => rfl
    | cons _ _ => cases h
  | cons x q ih => cases r with
    | nil => cases h
    | cons y r =>
      obtain ⟨h1, h2⟩ := List.cons.inj h
      injection h1 with h1
      rw [h1, ih h2]
section
variable {H H' : Hp}
theorem TxAll.same (s : Same H H') : ∀ {ws : List V} {qs : List (List Str)}, TxAll H ws qs → TxAll H' ws qs
  | _, _, .nil => .nil
  | _, _, .cons h t => .cons (s _ _ h) (t.same s)
theorem TxAll.app : ∀ {ws us : List V} {qs rs : List (List Str)}, TxAll H ws qs → TxAll H us rs → TxAll H (ws ++ us) (qs ++ rs)
  | _, _, _, _, .nil, h => h
  | _, _, _, _, .cons h t, g => .cons h (t.app g)
theorem TxAll.len : ∀ {ws : List V} {qs : List (List Str)}, TxAll H ws qs → ws.length = qs.length
  | _, _, .nil => rfl
  | _, _, .cons _ t => by rw [List.length_cons, List.length_cons, t.len]
theorem TxAll.get : ∀ {ws : List V} {qs : List (List Str)} {i : Nat} {v : V}, TxAll H ws qs → ws[i]? = some v → ∃ b q, v = .ref b ∧ qs[i]? = some q ∧ q ∈ qs ∧ H b = some (.tup (q.map V.str))
  | _, _, _, _, .nil, e => by simp at e
  | _, _, 0, _, .cons (b := b) (q := q) h t, e => by
    cases e
    exact ⟨b, q, rfl, rfl, List.mem_cons_self, h⟩
  | _, _, i + 1, v, .cons h t, e => by
    obtain ⟨b, q, e1, e2, e3, e4⟩ := t.get (i := i) (v := v) e
    exact ⟨b, q, e1, e2, List.mem_cons_of_mem _ e3, e4⟩
theorem TxAll.drop : ∀ {ws : List V} {qs : List (List Str)} (k : Nat), TxAll H ws qs → TxAll H (ws.drop k) (qs.drop k)
  | _, _, 0, h => h
  | _, _, _ + 1, .nil => .nil
  | _, _, k + 1, .cons _ t => t.drop k
theorem TxAll.mut {D : Addr} {xs ys : List V} (e : H D = some (.lst xs)) : ∀ {ws : List V} {qs : List (List Str)}, TxAll H ws qs → TxAll (upd H D (.lst ys)) ws qs
  | _, _, .nil => .nil
  | _, _, .cons h t => .cons (by
      rw [upd_ne (fun z => by
        rw [z, e] at h
        cases h)]
      exact h) (t.mut e)
theorem TxAll.dp {K : PySem.W.Frag} : ∀ {ws : List V} {qs : List (List Str)}, TxAll H ws qs → DpAll K H ws (qs.map txD)
  | _, _, .nil => .nil
  | _, _, .cons h t => .cons (.tup (.inl (.inl h)) (dpAll_strs _)) t.dp
theorem TxAll.of : ∀ {ps : List (V × PyData)} {rs : List (List Str)}, (∀ p ∈ ps, ∃ b q, p = (.ref b, txD q) ∧ H b = some (.tup (q.map V.str))) → ps.map Prod.snd = rs.map txD → TxAll H (ps.map Prod.fst) rs
  | [], [], _, _ => .nil
  | [], _ :: _, _, e => by cases e
  | _ :: _, [], _, e => by cases e
  | p :: ps, r :: rs, h, e => by
    rw [List.map_cons, List.map_cons] at e
    obtain ⟨e1, e2⟩ := List.cons.inj e
    obtain ⟨b, q, rfl, hb⟩ := h p List.mem_cons_self
    have : q = r := txD_inj e1
    subst this
    exact .cons hb (TxAll.of (fun p hp => h p (List.mem_cons_of_mem _ hp)) e2)
end
/-! ### dict() -/
end OC
set_option Elab.async false
set_option linter.all false
set_option maxRecDepth 100000
set_option maxHeartbeats 4000000
/-! min of a list of data; the least of the pairs of a number and a parting -/
set_option Elab.async false
set_option linter.all false
set_option maxRecDepth 100000
set_option maxHeartbeats 4000000
/-! tables stay while numbers are drawn; what repr asks of a pair of a number and a parting -/
set_option Elab.async false
set_option linter.all false
set_option maxRecDepth 100000
set_option maxHeartbeats 4000000
/-! the least number of calls: the greatest bound -/
namespace OC
open PySem PySem.Spec PyProof.Rows L2
/-- the greatest of some whole numbers -/
def topR : List Int → Int
  | [] => 0
  | x :: xs => xs.foldl (fun a y => if a < y then y else a) x
theorem topF : ∀ (xs : List Int) (x : Int), (xs.foldl (fun a y => if a < y then y else a) x = x ∨ xs.foldl (fun a y => if a < y then y else a) x ∈ xs) ∧ x ≤ xs.foldl (fun a y => if a < y then y else a) x ∧ ∀ y ∈ xs, y ≤ xs.foldl (fun a y => if a < y then y else a) x
  | [], x => ⟨.inl rfl, Int.le_refl _, fun y hy => (nomatch hy)⟩
  | z :: xs, x => by
    rw [List.foldl_cons]
    obtain ⟨h1, h2, h3⟩ := topF xs (if x < z then z else x)
    generalize xs.foldl (fun a y => if a < y then y else a) (if x < z then z else x) = m at h1 h2 h3
    by_cases c : x < z
    · rw [if_pos c] at h1 h2
      refine ⟨.inr ?_, by omega, fun y hy => ?_⟩
      · rcases h1 with h | h
        · rw [h]; exact List.mem_cons_self
        · exact List.mem_cons_of_mem _ h
      · rcases List.mem_cons.mp hy with rfl | hy
        · exact h2
        · exact h3 y hy
    · rw [if_neg c] at h1 h2
      refine ⟨?_, h2, fun y hy => ?_⟩
      · rcases h1 with h | h
        · exact .inl h
        · exact .inr (List.mem_cons_of_mem _ h)
      · rcases List.mem_cons.mp hy with rfl | hy
        · omega
        · exact h3 y hy
theorem top_mem {xs : List Int} (h : 0 < xs.length) : topR xs ∈ xs := by
  cases xs with
  | nil => exact absurd h (Nat.lt_irrefl _)
  | cons x xs =>
    rcases (topF xs x).1 with e | e
    · exact List.mem_cons.mpr (.inl e)
    · exact List.mem_cons_of_mem _ e
theorem top_le {xs : List Int} : ∀ y ∈ xs, y ≤ topR xs := by
  cases xs with
  | nil => exact fun y hy => (nomatch hy)
  | cons x xs =>
    intro y hy
    rcases List.mem_cons.mp hy with rfl | hy
    · exact (topF xs y).2.1
    · exact (topF xs x).2.2 y hy
theorem top_is {xs : List Int} {m : Int} (h : m ∈ xs) (hm : ∀ y ∈ xs, y ≤ m) : m = topR xs := by
  have h1 := top_le m h
  have h2 := hm _ (top_mem (List.length_pos_of_mem h))
  omega
/-- how few calls bring a group at one -/
def fewR (f : List Str → Int) (ms : List Str) : Int := topR ((partingsR ms).map (boundG f ms))
theorem BestP.few {f : List Str → Int} {ms : List Str} {P : List (List Str)} (a : BestP f ms P) : boundG f ms P = fewR f ms := by
  refine top_is (List.mem_map_of_mem a.mem) fun y hy => ?_
  obtain ⟨P', mP, rfl⟩ := List.mem_map.mp hy
  exact a.le mP
theorem few_le {f : List Str → Int} {ms : List Str} {P : List (List Str)} (h : P ∈ partingsR ms) : boundG f ms P ≤ fewR f ms := top_le _ (List.mem_map_of_mem h)
/-! ### one hand and the others -/
end OC
set_option Elab.async false
set_option linter.all false
set_option maxRecDepth 100000
set_option maxHeartbeats 4000000
/-! what is wanted from each part of a group -/
namespace OC
open PySem PySem.Spec PyProof.Rows L2 PySem.W
/-! ### lists that rise -/
/-! ### the lesser parts -/
/-! ### lists of pairs (part, number) in the heap -/
inductive WAll (H : Hp) : List V → List (List Str × Int) → Prop
  | nil : WAll H [] []
  | cons {t b : Addr} {x : List Str × Int} {ws : List V} {xs : List (List Str × Int)} : H t = some (.tup [.ref b, .int x.2]) → H b = some (.tup (x.1.map V.str)) → WAll H ws xs → WAll H (.ref t :: ws) (x :: xs)
section
variable {H H' : Hp}
theorem WAll.same (s : Same H H') : ∀ {ws : List V} {xs : List (List Str × Int)}, WAll H ws xs → WAll H' ws xs
  | _, _, .nil => .nil
  | _, _, .cons h1 h2 t => .cons (s _ _ h1) (s _ _ h2) (t.same s)
theorem WAll.tk (s : ∀ a xs, H a = some (.tup xs) → H' a = some (.tup xs)) : ∀ {ws : List V} {xs : List (List Str × Int)}, WAll H ws xs → WAll H' ws xs
  | _, _, .nil => .nil
  | _, _, .cons h1 h2 t => .cons (s _ _ h1) (s _ _ h2) (t.tk s)
theorem WAll.app : ∀ {ws us : List V} {xs ys : List (List Str × Int)}, WAll H ws xs → WAll H us ys → WAll H (ws ++ us) (xs ++ ys)
  | _, _, _, _, .nil, h => h
  | _, _, _, _, .cons h1 h2 t, g => .cons h1 h2 (t.app g)
theorem WAll.len : ∀ {ws : List V} {xs : List (List Str × Int)}, WAll H ws xs → ws.length = xs.length
  | _, _, .nil => rfl
  | _, _, .cons _ _ t => by rw [List.length_cons, List.length_cons, t.len]
theorem WAll.get : ∀ {ws : List V} {xs : List (List Str × Int)} {i : Nat} {v : V}, WAll H ws xs → ws[i]? = some v → ∃ t b x, v = .ref t ∧ xs[i]? = some x ∧ H t = some (.tup [.ref b, .int x.2]) ∧ H b = some (.tup (x.1.map V.str))
  | _, _, _, _, .nil, e => by simp at e
  | _, _, 0, _, .cons (t := t) (b := b) (x := x) h1 h2 _, e => by
    cases e
    exact ⟨t, b, x, rfl, rfl, h1, h2⟩
  | _, _, i + 1, v, .cons _ _ t, e => t.get (i := i) (v := v) e
theorem WAll.mut {D : Addr} {zs ys : List V} (e : H D = some (.lst zs)) {ws : List V} {xs : List (List Str × Int)} (h : WAll H ws xs) : WAll (upd H D (.lst ys)) ws xs := h.tk fun a u q => by
  rw [upd_ne (fun z => by
    rw [z, e] at q
    cases q)]
  exact q
end
end OC
set_option Elab.async false
set_option linter.all false
set_option maxRecDepth 100000
set_option maxHeartbeats 4000000
/-! numbers for each of a group: all that come to a total, the greatest first -/
set_option Elab.async false
set_option linter.all false
set_option maxRecDepth 100000
set_option maxHeartbeats 4000000
/-! numbers that come to the greatest bound of a parting and leave none wanting: there are some -/
set_option Elab.async false
set_option linter.all false
set_option maxRecDepth 100000
set_option maxHeartbeats 4000000
/-! the least sum of calls: numbers for each that leave none wanting -/
set_option Elab.async false
set_option linter.all false
set_option maxRecDepth 100000
set_option maxHeartbeats 4000000
/-! numbers that leave none wanting come to the greatest bound of a parting at least -/
set_option Elab.async false
set_option linter.all false
set_option maxRecDepth 100000
set_option maxHeartbeats 4000000
/-! the least sum of calls: at most what the group knows; with one call less some part wants -/
set_option Elab.async false
set_option linter.all false
set_option maxRecDepth 100000
set_option maxHeartbeats 4000000
/-! calls that a group makes: what is known behind a call, and how few are left -/
namespace OC
open PySem PySem.Spec PyProof.Rows L2 PySem.W
theorem InR.sub {p : Int} {rs ts : List (List Int)} {r : List Int} (h : ∀ x ∈ rs, x ∈ ts) (hr : InR p rs r) : InR p ts r := InR.mono (fun x hx => InR.mem (h x hx)) hr
section
variable {p : Int} {n : Nat} {kn : List (List Int)} {hs : List (Str × List (List Int))} {row : List Int}
/-- the hands behind a call -/
def heardH (p : Int) (n : Nat) (row : List Int) (hs : List (Str × List (List Int))) : List (Str × List (List Int)) := hs.map fun h => (h.1, plainR p n (h.2 ++ [row]))
theorem heard_names : (heardH p n row hs).map Prod.fst = hs.map Prod.fst := by
  unfold heardH
  rw [List.map_map]
  rfl
theorem Stand5.heard (S : Stand5 p n kn hs) (hr : RowsOk p n [row]) : Stand5 p n (plainR p n (kn ++ [row])) (heardH p n row hs) where
  fld := S.fld
  p1 := S.p1
  n1 := S.n1
  n8 := S.n8
  pk := PFR.of_plain S.fld (rowsOk_app S.pk.1 hr)
  ph := fun h hh => by
    obtain ⟨x, mx, rfl⟩ := List.mem_map.mp hh
    exact PFR.of_plain S.fld (rowsOk_app (S.ph x mx).1 hr)
  inn := fun h hh r mr => by
    obtain ⟨x, mx, rfl⟩ := List.mem_map.mp hh
    refine (InR.plain S.fld (rowsOk_app (S.ph x mx).1 hr)).mpr ?_
    refine InR.mono (fun z hz => ?_) ((InR.plain S.fld (rowsOk_app S.pk.1 hr)).mp (InR.mem mr))
    rcases List.mem_append.mp hz with hz | hz
    · exact InR.sub (fun y hy => List.mem_append_left _ hy) (S.inn x mx z hz)
    · exact InR.mem (List.mem_append_right _ hz)
  few := by
    unfold heardH
    rw [List.length_map]
    exact S.few
  many := by
    unfold heardH
    rw [List.length_map]
    exact S.many
  srt := by
    rw [heard_names]
    exact S.srt
  nd := by
    rw [heard_names]
    exact S.nd
  nm := by
    rw [heard_names]
    exact S.nm
theorem room_heard (S : Stand5 p n kn hs) (hr : RowsOk p n [row]) (q : List Str) : roomR p n (plainR p n (kn ++ [row])) (heardH p n row hs) q = plainR p n (roomR p n kn hs q ++ [row]) := by
  have F := S.fld
  have S' := S.heard hr
  have oq := room_rows S q
  have ok1 := rowsOk_app S.pk.1 hr
  have up : ∀ z, InR p (kn ++ selR q hs) z → InR p (roomR p n kn hs q ++ [row]) z := fun z hz => InR.sub (fun y hy => List.mem_append_left _ hy) ((InR.plain F oq).mpr hz)
  refine plain_same F (room_rows S' q) (rowsOk_app (room_pf S q).1 hr) (fun r mr => ?_) (fun r mr => ?_)
  · rcases List.mem_append.mp mr with mr | mr
    · refine InR.mono (fun z hz => ?_) ((InR.plain F ok1).mp (InR.mem mr))
      rcases List.mem_append.mp hz with hz | hz
      · exact up z (InR.mem (List.mem_append_left _ hz))
      · exact InR.mem (List.mem_append_right _ hz)
    · obtain ⟨x, mx, a, b⟩ := sel_mem mr
      obtain ⟨y, my, rfl⟩ := List.mem_map.mp mx
      refine InR.mono (fun z hz => ?_) ((InR.plain F (rowsOk_app (S.ph y my).1 hr)).mp (InR.mem b))
      rcases List.mem_append.mp hz with hz | hz
      · exact up z (InR.mem (List.mem_append_right _ (mem_sel my a hz)))
      · exact InR.mem (List.mem_append_right _ hz)
  · have lk : ∀ z, InR p (kn ++ [row]) z → InR p (plainR p n (kn ++ [row]) ++ selR q (heardH p n row hs)) z := fun z hz => InR.sub (fun y hy => List.mem_append_left _ hy) ((InR.plain F ok1).mpr hz)
    rcases List.mem_append.mp mr with mr | mr
    · refine InR.mono (fun z hz => ?_) ((InR.plain F oq).mp (InR.mem mr))
      rcases List.mem_append.mp hz with hz | hz
      · exact lk z (InR.mem (List.mem_append_left _ hz))
      · obtain ⟨y, my, a, b⟩ := sel_mem hz
        refine InR.sub (fun u hu => List.mem_append_right _ (mem_sel (h := (y.1, plainR p n (y.2 ++ [row]))) (List.mem_map_of_mem my) a hu)) ((InR.plain F (rowsOk_app (S.ph y my).1 hr)).mpr (InR.mem (List.mem_append_left _ b)))
    · exact lk r (InR.mem (List.mem_append_right _ mr))
theorem has_room (S : Stand5 p n kn hs) (hr : RowsOk p n [row]) (q : List Str) : hasR p n (roomR p n kn hs q) row = true ↔ InR p (kn ++ selR q hs) row := hasR_plain S.fld (room_rows S q) hr
theorem has_more (S : Stand5 p n kn hs) (hr : RowsOk p n [row]) {q q' : List Str} (h : ∀ x ∈ q, x ∈ q') (e : hasR p n (roomR p n kn hs q) row = true) : hasR p n (roomR p n kn hs q') row = true := by
  rw [has_room S hr] at e ⊢
  refine InR.sub (fun z hz => ?_) e
  rcases List.mem_append.mp hz with hz | hz
  · exact List.mem_append_left _ hz
  · obtain ⟨y, my, a, b⟩ := sel_mem hz
    exact List.mem_append_right _ (mem_sel my (h _ a) b)
/-- how much is known behind a call -/
theorem size_heard (S : Stand5 p n kn hs) (hr : RowsOk p n [row]) (q : List Str) : sizeR p n (plainR p n (kn ++ [row])) (heardH p n row hs) q = sizeR p n kn hs q + (if hasR p n (roomR p n kn hs q) row = true then 0 else 1) - (if hasR p n kn row = true then 0 else 1) := by
  show ((roomR p n (plainR p n (kn ++ [row])) (heardH p n row hs) q).length : Int) - _ = ((roomR p n kn hs q).length : Int) - (kn.length : Int) + _ - _
  rw [room_heard S hr, plain_one_more S.fld (room_pf S q).1 hr, plain_one_more S.fld S.pk.1 hr, (room_pf S q).2, S.pk.2]
  cases hasR p n (roomR p n kn hs q) row <;> cases hasR p n kn row <;> simp <;> omega
end
/-! ### numbers behind a call -/
end OC
set_option Elab.async false
set_option linter.all false
set_option maxRecDepth 100000
set_option maxHeartbeats 4000000
/-! a call behind which the numbers, one less, leave none wanting -/
set_option Elab.async false
set_option linter.all false
set_option maxRecDepth 100000
set_option maxHeartbeats 4000000
/-! defs with one keyword-only parameter that is None where it is not written -/
namespace OC
open PySem PySem.Spec PyProof.Rows L2
structure DfD (K : PySem.W.Frag) (mg : Str → Option Value) (x : Str) (st : Stmt) (ps : List Str) (dvs : List V) : Prop where
  ex : ∃ (f : Addr) (fd : FuncData) (ds : List Value), Fun K x x st f fd ∧ Vals dvs ds ∧ Binds K fd ps ds ∧ mg x = some (.ref f)
structure OkD (P : Program) (w : World) (K : PySem.W.Frag) (mg : Str → Option Value) (base : Heap) (k : Nat) (x : Str) (ps : List Str) (dvs : List V) (sp : Sp) : Prop where
  ex : ∃ (f : Addr) (fd : FuncData) (ds : List Value), FnOk P w K mg base CX0 k f fd ps sp ∧ mg x = some (.ref f) ∧ PySem.W.keepIn K (.ref f) = true ∧ Vals dvs ds ∧ Binds K fd ps ds
section
variable {P : Program} {w : World} {K : PySem.W.Frag} {mg : Str → Option Value} {base : Heap}
theorem DfD.ok {x : Str} {st : Stmt} {N ps : List Str} {dvs : List V} {k : Nat} {sp : Sp} (D : DfD K mg x st ps dvs) (S : FnScope N ps (defScope st)) (len : ∀ vs H Q E, sp vs H Q E → vs.length = ps.length)
    (hbody : ∀ (f : Addr) (cdv : Value) (A : Around) (outer : List Env) (s : Shared) (H : Hp) (vs : List V) (Q : VK) (E : XK), Room k (A.deeper (envOfC x (defScope st) s.heap.objs.size f cdv)) → sp vs H Q E →
      ∃ t, PSs (cxOf CX0 P w K mg base N x (defScope st) f cdv A outer s H E).nox (defBody st) t ∧ t { nx := fun _ H' => Q .non H', rt := Q } (start N vs) H) : OkD P w K mg base (k + 1) x ps dvs sp := by
  obtain ⟨f, fd, ds, F, v, b, g⟩ := D.ex
  exact ⟨f, fd, ds, F.ok S len (hbody f), g, F.kp, v, b⟩
theorem OkD.mono {x : Str} {ps : List Str} {dvs : List V} {j k : Nat} {sp : Sp} (O : OkD P w K mg base j x ps dvs sp) (h : j ≤ k) : OkD P w K mg base k x ps dvs sp := by
  obtain ⟨f, fd, ds, F, r⟩ := O.ex
  exact ⟨f, fd, ds, F.mono h, r⟩
end
end OC
set_option Elab.async false
set_option linter.all false
set_option maxRecDepth 100000
set_option maxHeartbeats 4000000
/-! calls one behind another -/
namespace OC
open PySem PySem.Spec PyProof.Rows L2 PySem.W
/-! ### behind some calls -/
def kAft (p : Int) (n : Nat) (kn : List (List Int)) (cs : List (Str × List Int)) : List (List Int) := cs.foldl (fun k c => plainR p n (k ++ [c.2])) kn
def hAft (p : Int) (n : Nat) (hs : List (Str × List (List Int))) (cs : List (Str × List Int)) : List (Str × List (List Int)) := cs.foldl (fun h c => heardH p n c.2 h) hs
theorem kAft_snoc {p : Int} {n : Nat} {kn : List (List Int)} {cs : List (Str × List Int)} {c : Str × List Int} : kAft p n kn (cs ++ [c]) = plainR p n (kAft p n kn cs ++ [c.2]) := by
  unfold kAft
  rw [List.foldl_append]
  rfl
theorem hAft_snoc {p : Int} {n : Nat} {hs : List (Str × List (List Int))} {cs : List (Str × List Int)} {c : Str × List Int} : hAft p n hs (cs ++ [c]) = heardH p n c.2 (hAft p n hs cs) := by
  unfold hAft
  rw [List.foldl_append]
  rfl
/-- how much is known behind some calls -/
def sAft (p : Int) (n : Nat) (kn : List (List Int)) (hs : List (Str × List (List Int))) (cs : List (Str × List Int)) : List Str → Int := sizeR p n (kAft p n kn cs) (hAft p n hs cs)
/-- calls of the group, each known to its hand behind those ahead, each leaves one call less -/
def StepsR (p : Int) (n : Nat) (kn : List (List Int)) (hs : List (Str × List (List Int))) (ms : List Str) (cs : List (Str × List Int)) : Prop := ∀ i x r, cs[i]? = some (x, r) →
  x ∈ ms ∧ RowsOk p n [r] ∧ hasR p n (roomR p n (kAft p n kn (cs.take i)) (hAft p n hs (cs.take i)) [x]) r = true ∧ fewR (sAft p n kn hs (cs.take (i + 1))) ms = fewR (sAft p n kn hs (cs.take i)) ms - 1
/-- a plan -/
structure PlanR (p : Int) (n : Nat) (kn : List (List Int)) (hs : List (Str × List (List Int))) (ms : List Str) (cs : List (Str × List Int)) : Prop where
  steps : StepsR p n kn hs ms cs
  len : (cs.length : Int) = fewR (sizeR p n kn hs) ms
  zero : fewR (sAft p n kn hs cs) ms = 0
/-! ### the callers one behind another -/
end OC
set_option Elab.async false
set_option linter.all false
set_option maxRecDepth 100000
set_option maxHeartbeats 4000000
/-! plans that hold; no plan is shorter -/
namespace OC
open PySem PySem.Spec PyProof.Rows L2 PySem.W
section
variable {p : Int} {n : Nat} {kn : List (List Int)} {hs : List (Str × List (List Int))} {ms : List Str} {y : Str} {row : List Int}
/-- a call that leaves one less is new to the listener -/
theorem call_new (S : Stand5 p n kn hs) (ok : RowsOk p n [row]) (few : fewR (sizeR p n (plainR p n (kn ++ [row])) (heardH p n row hs)) ms = fewR (sizeR p n kn hs) ms - 1) : hasR p n kn row = false := by
  cases e : hasR p n kn row with
  | false => rfl
  | true =>
    have : sizeR p n (plainR p n (kn ++ [row])) (heardH p n row hs) = sizeR p n kn hs := funext fun q => by
      rw [size_heard S ok q, if_pos e, if_pos (has_more S ok (q := []) (q' := q) (fun x hx => (nomatch hx)) (by rw [room_nil S]; exact e))]
      omega
    rw [this] at few
    omega
theorem size_call (S : Stand5 p n kn hs) (ok : RowsOk p n [row]) (my : y ∈ ms) (own : hasR p n (roomR p n kn hs [y]) row = true) (nw : hasR p n kn row = false) : sizeR p n (plainR p n (kn ++ [row])) (heardH p n row hs) ms = sizeR p n kn hs ms - 1 := by
  rw [size_heard S ok ms, nw, if_pos (has_more S ok (q := [y]) (fun x hx => by rw [List.mem_singleton.mp hx]; exact my) own)]
  simp
/-- a parting's bound falls by one at most -/
theorem bound_fall (S : Stand5 p n kn hs) (ok : RowsOk p n [row]) (my : y ∈ ms) (own : hasR p n (roomR p n kn hs [y]) row = true) (nw : hasR p n kn row = false) {P : List (List Str)} (mP : P ∈ partingsR ms) : boundG (sizeR p n kn hs) ms P - 1 ≤ boundG (sizeR p n (plainR p n (kn ++ [row])) (heardH p n row hs)) ms P := by
  have gt := (partings_mem.mp mP).2
  have os := splits_ok (partings_mem.mp mP).1
  have hm := size_call S ok my own nw
  have le : ∀ q : List Str, sizeR p n (plainR p n (kn ++ [row])) (heardH p n row hs) q ≤ sizeR p n kn hs q := fun q => by
    rw [size_heard S ok q, nw]
    split <;> simp
    omega
  have sum : ∀ Q : List (List Str), (Q.map (sizeR p n (plainR p n (kn ++ [row])) (heardH p n row hs))).sum ≤ (Q.map (sizeR p n kn hs)).sum ∧ ((∃ q ∈ Q, y ∈ q) → (Q.map (sizeR p n (plainR p n (kn ++ [row])) (heardH p n row hs))).sum ≤ (Q.map (sizeR p n kn hs)).sum - 1) := fun Q => by
    induction Q with
    | nil => exact ⟨Int.le_refl _, fun ⟨q, hq, _⟩ => (nomatch hq)⟩
    | cons a Q ih =>
      have la := le a
      simp only [List.map_cons, List.sum_cons]
      refine ⟨by omega, fun ⟨q, hq, yq⟩ => ?_⟩
      rcases List.mem_cons.mp hq with rfl | hq
      · have := size_call (ms := q) S ok yq own nw
        omega
      · have := ih.2 ⟨q, hq, yq⟩
        omega
  have sP := (sum P).2 (by
    have := os.pm.mem_iff.mpr my
    obtain ⟨q, hq, yq⟩ := List.mem_flatten.mp this
    exact ⟨q, hq, yq⟩)
  unfold boundG boundOf
  rw [List.length_map, List.length_map, hm]
  have := Int.ediv_le_ediv (show (0 : Int) < (P.length : Int) - 1 by omega) (show (P.map (sizeR p n (plainR p n (kn ++ [row])) (heardH p n row hs))).sum - (sizeR p n kn hs ms - 1) ≤ (P.map (sizeR p n kn hs)).sum - sizeR p n kn hs ms by omega)
  omega
end
section
variable {p : Int} {n : Nat} {kn : List (List Int)} {hs : List (Str × List (List Int))} {ms : List Str} {cs : List (Str × List Int)}
theorem take_snoc {i : Nat} {c : Str × List Int} (g : cs[i]? = some c) : cs.take (i + 1) = cs.take i ++ [c] := by
  rw [List.take_add_one, g]
  rfl
/-- what is told behind the first so many calls of a plan -/
structure AtR (p : Int) (n : Nat) (kn : List (List Int)) (hs : List (Str × List (List Int))) (ms : List Str) (cs : List (Str × List Int)) (i : Nat) : Prop where
  ok : Stand5 p n (kAft p n kn (cs.take i)) (hAft p n hs (cs.take i))
  few : fewR (sAft p n kn hs (cs.take i)) ms = (cs.length : Int) - i
  all : sAft p n kn hs (cs.take i) ms = sizeR p n kn hs ms - i
  bd : ∀ P ∈ partingsR ms, boundG (sizeR p n kn hs) ms P = fewR (sizeR p n kn hs) ms → boundG (sAft p n kn hs (cs.take i)) ms P = (cs.length : Int) - i
theorem PlanR.at (S : Stand5 p n kn hs) (h : PlanR p n kn hs ms cs) : ∀ i, i ≤ cs.length → AtR p n kn hs ms cs i
  | 0, _ => ⟨S, by
      show fewR (sizeR p n kn hs) ms = _
      rw [← h.len]
      omega, by
      show sizeR p n kn hs ms = _
      omega, fun P mP e => by
      show boundG (sizeR p n kn hs) ms P = _
      rw [e, ← h.len]
      omega⟩
  | i + 1, hi => by
    have ih := h.at S i (by omega)
    obtain ⟨x, r, g⟩ : ∃ x r, cs[i]? = some (x, r) := ⟨_, _, List.getElem?_eq_getElem (by omega)⟩
    obtain ⟨mx, ok, own, few⟩ := h.steps i x r g
    have e : sAft p n kn hs (cs.take (i + 1)) = sizeR p n (plainR p n (kAft p n kn (cs.take i) ++ [r])) (heardH p n r (hAft p n hs (cs.take i))) := by
      unfold sAft
      rw [take_snoc g, kAft_snoc, hAft_snoc]
    have e0 : sAft p n kn hs (cs.take i) = sizeR p n (kAft p n kn (cs.take i)) (hAft p n hs (cs.take i)) := rfl
    have f1 := ih.few
    have f2 := ih.all
    rw [e, e0] at few
    rw [e0] at f1 f2
    have nw := call_new ih.ok ok few
    have sz := size_call ih.ok ok mx own nw
    refine ⟨?_, ?_, ?_, fun P mP eP => ?_⟩
    · rw [take_snoc g, kAft_snoc, hAft_snoc]
      exact ih.ok.heard ok
    · rw [e, few]
      omega
    · rw [e, sz]
      omega
    · have b := ih.bd P mP eP
      rw [e0] at b
      have c := bound_fall ih.ok ok mx own nw mP
      have d := few_le (f := sAft p n kn hs (cs.take (i + 1))) mP
      rw [e] at d ⊢
      omega
end
end OC
set_option Elab.async false
set_option linter.all false
/-! texts sorted: a sorted choice of them is a part in their order -/
namespace OC
open PySem PySem.Spec PyProof.Rows L2
theorem pw_rising : ∀ (l : List Str) (p : Str), risingS p l = true → (p :: l).Pairwise (fun a b => a.cps.toList ≤ b.cps.toList)
  | [], p, _ => List.pairwise_singleton _ _
  | x :: r, p, h => by
    unfold risingS at h
    rw [Bool.and_eq_true, ltCps_eq] at h
    have h1 : p.cps.toList ≤ x.cps.toList := List.not_lt.mp (by simpa using h.1)
    have ih := pw_rising r x h.2
    refine List.pairwise_cons.mpr ⟨fun y hy => ?_, ih⟩
    rcases List.mem_cons.mp hy with rfl | hy
    · exact h1
    · exact List.le_trans h1 ((List.pairwise_cons.mp ih).1 y hy)
theorem pw_sorted : ∀ (l : List Str), sortedS l = true → l.Pairwise (fun a b => a.cps.toList ≤ b.cps.toList)
  | [], _ => .nil
  | x :: r, h => pw_rising r x h
end OC
set_option Elab.async false
set_option linter.all false
set_option maxRecDepth 100000
set_option maxHeartbeats 4000000
/-! defs whose keyword-only parameter is written; t.count(x) of a tuple of texts -/
namespace OC
open PySem PySem.Spec PyProof.Rows L2
structure OkK (P : Program) (w : World) (K : PySem.W.Frag) (mg : Str → Option Value) (base : Heap) (k : Nat) (x : Str) (ps : List Str) (n : Nat) (ks : List Str) (sp : Sp) : Prop where
  ex : ∃ (f : Addr) (fd : FuncData), FnOk P w K mg base CX0 k f fd ps sp ∧ mg x = some (.ref f) ∧ PySem.W.keepIn K (.ref f) = true ∧ KBn K fd ps n ks (fun us ws => us ++ ws) (fun vs zs => vs ++ zs)
section
variable {P : Program} {w : World} {K : PySem.W.Frag} {mg : Str → Option Value} {base : Heap}
theorem OkK.mono {x : Str} {ps : List Str} {n : Nat} {ks : List Str} {j k : Nat} {sp : Sp} (O : OkK P w K mg base j x ps n ks sp) (h : j ≤ k) : OkK P w K mg base k x ps n ks sp := by
  obtain ⟨f, fd, F, r⟩ := O.ex
  exact ⟨f, fd, F.mono h, r⟩
end
/-! ### t.count(x) -/
end OC
set_option Elab.async false
set_option linter.all false
set_option maxRecDepth 100000
set_option maxHeartbeats 4000000
/-! tuples that are known to have no dict: displays, sums, products -/
namespace OC
open PySem PySem.Spec PyProof.Rows L2
section
variable {X : Cx} {pins : List (Addr × Obj)} {σ : L2.St} {H : Hp} {s : Shared}
theorem frz_new {p : Addr} {o : Obj} {xs : List V} (od : o.dict = none) : TupF (upd H p (.frz o (.tup xs))) p xs := ⟨o, od, upd_same⟩
end
end OC
set_option Elab.async false
set_option linter.all false
/-! three hands: their partings in order, the least numbers of calls -/
set_option Elab.async false
set_option linter.all false
/-! numbers of calls pushed along a map of names: the least number of calls of a group and of its image -/
namespace OC
open PySem PySem.Spec PyProof.Rows L2
/-! ### a hand twice -/
section
variable {p : Int} {n : Nat} {kn : List (List Int)} {hs hg : List (Str × List (List Int))} {own fr : Str}
/-- hands and, besides, one hand's room under a further name -/
def CopyOf (hs hg : List (Str × List (List Int))) (own fr : Str) : Prop := ∀ (x : Str) (room : List (List Int)), (x, room) ∈ hg ↔ (x, room) ∈ hs ∨ (x = fr ∧ (own, room) ∈ hs)
theorem CopyOf.heard (C : CopyOf hs hg own fr) (row : List Int) : CopyOf (heardH p n row hs) (heardH p n row hg) own fr := fun x room => by
  unfold heardH
  constructor
  · intro h
    obtain ⟨⟨y, r⟩, m, e⟩ := List.mem_map.mp h
    cases e
    rcases (C y r).mp m with m | ⟨rfl, m⟩
    · exact .inl (List.mem_map.mpr ⟨(y, r), m, rfl⟩)
    · exact .inr ⟨rfl, List.mem_map.mpr ⟨(own, r), m, rfl⟩⟩
  · rintro (h | ⟨rfl, h⟩)
    · obtain ⟨⟨y, r⟩, m, e⟩ := List.mem_map.mp h
      cases e
      exact List.mem_map.mpr ⟨(y, r), (C y r).mpr (.inl m), rfl⟩
    · obtain ⟨⟨y, r⟩, m, e⟩ := List.mem_map.mp h
      cases e
      exact List.mem_map.mpr ⟨(x, r), (C x r).mpr (.inr ⟨rfl, m⟩), rfl⟩
end
end OC
set_option Elab.async false
set_option linter.all false
/-! hands sorted: their names rise -/
set_option Elab.async false
set_option linter.all false
set_option maxRecDepth 100000
set_option maxHeartbeats 4000000
/-! any thing == a text; any thing in a tuple of texts; t != () -/
namespace OC
open PySem PySem.Spec PyProof.Rows L2
open PySem.SeqAt
/-- of a known kind -/
inductive AnyT (K : PySem.W.Frag) (H : Hp) : V → Prop
  | non : AnyT K H .non
  | bl (b : Bool) : AnyT K H (.bl b)
  | int (i : Int) : AnyT K H (.int i)
  | str (x : Str) : AnyT K H (.str x)
  | lst {a : Addr} {xs : List V} : SqL K H a xs → AnyT K H (.ref a)
  | tup {a : Addr} {xs : List V} : SqT K H a xs → AnyT K H (.ref a)
  | dct {a : Addr} {kvs : List (L2.Key × V)} : H a = some (.dK kvs) → AnyT K H (.ref a)
theorem Rep.any {K : PySem.W.Frag} {H : Hp} {bad : Addr → Prop} {v : V} {d : PyData} (r : Rep K H bad v d) : AnyT K H v := by
  cases r with
  | non => exact .non
  | bl b => exact .bl b
  | int i => exact .int i
  | str x => exact .str x
  | lst h _ _ => exact .lst (.inl (.inl h))
  | tup h _ => exact .tup h
  | dct h _ => exact .dct h
end OC
set_option Elab.async false
set_option linter.all false
set_option maxRecDepth 100000
set_option maxHeartbeats 4000000
/-! things that nest, with weights -/
namespace OC
open PySem PySem.Spec PyProof.Rows L2
mutual
/-- numbers to 10 ^ 29 and g, no more than g items, signs that repr shows, no dict but the empty one -/
def nz (g : Nat) : PyData → Bool
  | .none => true
  | .bool _ => true
  | .int i => decide (i.natAbs ≤ 10 ^ 29 + g)
  | .str x => x.cps.toList.all fun c => decide (c < 1000000)
  | .list ds => decide (ds.length ≤ g) && nzAll g ds
  | .tuple ds => decide (ds.length ≤ g) && nzAll g ds
  | .dict ds => ds.isEmpty
def nzAll (g : Nat) : List PyData → Bool
  | [] => true
  | d :: ds => nz g d && nzAll g ds
end
mutual
/-- no less than the signs of repr -/
def wt : PyData → Nat
  | .none => 50
  | .bool _ => 50
  | .int _ => 50
  | .str x => 10 * x.length + 50
  | .list ds => wtAll ds + 50
  | .tuple ds => wtAll ds + 50
  | .dict _ => 50
def wtAll : List PyData → Nat
  | [] => 0
  | d :: ds => wt d + 2 + wtAll ds
end
theorem nzAll_iff {g : Nat} : ∀ {ds : List PyData}, nzAll g ds = true ↔ ∀ d ∈ ds, nz g d = true
  | [] => by simp [nzAll]
  | d :: ds => by simp only [nzAll, Bool.and_eq_true, nzAll_iff (ds := ds), List.forall_mem_cons]
theorem wt_ge : ∀ d : PyData, 50 ≤ wt d
  | .none => by simp [wt]
  | .bool _ => by simp [wt]
  | .int _ => by simp [wt]
  | .str x => by simp [wt]
  | .list ds => by simp [wt]
  | .tuple ds => by simp [wt]
  | .dict _ => by simp [wt]
theorem wtAll_len : ∀ xs : List PyData, 52 * xs.length ≤ wtAll xs
  | [] => Nat.le_refl _
  | d :: xs => by
    have := wtAll_len xs
    have := wt_ge d
    rw [List.length_cons, wtAll]
    omega
theorem wtAll_mem : ∀ {xs : List PyData} {d : PyData}, d ∈ xs → wt d + 2 ≤ wtAll xs
  | x :: xs, d, h => by
    rw [wtAll]
    rcases List.mem_cons.mp h with rfl | h
    · omega
    · have := wtAll_mem h
      omega
/-- a thing's weight, depth and numbers -/
structure Thg (g B k : Nat) (d : PyData) : Prop where
  n : nz g d = true
  w : wt d ≤ B
  k : d.depth ≤ k
mutual
theorem nz_mono {g g' : Nat} (hg : g ≤ g') : ∀ (d : PyData), nz g d = true → nz g' d = true
  | .none, _ => by simp [nz]
  | .bool _, _ => by simp [nz]
  | .int i, h => by
    have : i.natAbs ≤ 10 ^ 29 + g := by simpa only [nz, decide_eq_true_eq] using h
    simp only [nz]
    exact decide_eq_true (by omega)
  | .str x, h => by simpa [nz] using h
  | .list ds, h => by
    simp only [nz, Bool.and_eq_true, decide_eq_true_eq] at h ⊢
    exact ⟨Nat.le_trans h.1 hg, nzAll_mono hg ds h.2⟩
  | .tuple ds, h => by
    simp only [nz, Bool.and_eq_true, decide_eq_true_eq] at h ⊢
    exact ⟨Nat.le_trans h.1 hg, nzAll_mono hg ds h.2⟩
  | .dict ds, h => by simpa [nz] using h
theorem nzAll_mono {g g' : Nat} (hg : g ≤ g') : ∀ (ds : List PyData), nzAll g ds = true → nzAll g' ds = true
  | [], _ => by simp [nzAll]
  | d :: ds, h => by
    have h' : nz g d = true ∧ nzAll g ds = true := by simpa [nzAll] using h
    simp only [nzAll, Bool.and_eq_true]
    exact ⟨nz_mono hg d h'.1, nzAll_mono hg ds h'.2⟩
end
theorem Thg.mono {g g' B B' k k' : Nat} {d : PyData} (h : Thg g B k d) (hg : g ≤ g') (hB : B ≤ B') (hk : k ≤ k') : Thg g' B' k' d := ⟨nz_mono hg d h.n, Nat.le_trans h.w hB, Nat.le_trans h.k hk⟩
theorem depth_all {k : Nat} : ∀ {ds : List PyData}, PyData.depthAll ds ≤ k ↔ ∀ d ∈ ds, d.depth ≤ k
  | [] => by simp [PyData.depthAll]
  | d :: ds => by
    simp only [PyData.depthAll, List.forall_mem_cons, ← depth_all (ds := ds)]
    omega
theorem Thg.tup {g B k : Nat} {ds : List PyData} (h : Thg g B k (.tuple ds)) : (∀ d ∈ ds, nz g d = true) ∧ wtAll ds + 50 ≤ B ∧ ∃ k', k = k' + 1 ∧ ∀ d ∈ ds, d.depth ≤ k' := by
  refine ⟨nzAll_iff.mp (by have := h.n; simp only [nz, Bool.and_eq_true] at this; exact this.2), by have := h.w; rw [wt] at this; exact this, ?_⟩
  have := h.k
  simp only [PyData.depth] at this
  cases k with
  | zero => omega
  | succ k => exact ⟨k, rfl, depth_all.mp (by omega)⟩
def itemsD : PyData → List PyData
  | .tuple ds => ds
  | _ => []
theorem Thg.items {g B k : Nat} {d : PyData} (h : Thg g B k d) : 52 * (itemsD d).length ≤ B ∧ ∀ e ∈ itemsD d, Thg g B k e := by
  cases d with
  | tuple ds =>
    obtain ⟨h1, h2, k', rfl, h3⟩ := h.tup
    have := wtAll_len ds
    exact ⟨by show 52 * ds.length ≤ B; omega, fun e he => ⟨h1 e he, by have := wtAll_mem (show e ∈ ds from he); omega, Nat.le_succ_of_le (h3 e he)⟩⟩
  | _ => exact ⟨Nat.zero_le _, fun e he => (nomatch he)⟩
end OC
set_option Elab.async false
set_option linter.all false
set_option maxRecDepth 100000
set_option maxHeartbeats 4000000
/-! rising things; partings and things that are none -/
namespace OC
open PySem PySem.W PySem.Spec PyProof.Rows L2
def rLtD (K : PySem.W.Frag) : R2 := fun x y H Q => ∃ d e, Dp K H x d ∧ Dp K H y e ∧ alike d e = true ∧ d ≠ .none ∧ d.depth ≤ 60 ∧ Q (.bl (dataLt d e)) H
theorem op_ltD {X : Cx} (hu : X.A.units + 64 < cLine) : OpR X (compareOp .Lt) (rLtD X.K) := by
  intro pins s σ H x y v u Q I rx ry h
  obtain ⟨d, e, hd, he, al, ne, dp, q⟩ := h
  obtain ⟨as, r1⟩ := Dp.reads I d x v hd rx
  obtain ⟨bs, r2⟩ := Dp.reads I e y u he ry
  exact lt_data r1 r2 al ne (by omega) ⟨.bl _, H, I, rfl, q⟩
/-- each less than the next -/
def risD (ds : List PyData) : Bool := (List.zipWith dataLt ds (ds.drop 1)).all id
theorem eqvAll_strs : ∀ a b : List Str, PyData.eqvAll (a.map PyData.str) (b.map PyData.str) = decide (a = b)
  | [], [] => rfl
  | [], _ :: _ => by simp [PyData.eqvAll]
  | _ :: _, [] => by simp [PyData.eqvAll]
  | x :: a, y :: b => by
    simp only [List.map_cons, PyData.eqvAll, PyData.eqv, eqvAll_strs a b]
    by_cases h : x = y
    · subst h; simp
    · have : (x == y) = false := by simpa using h
      rw [this]; simp [h]
theorem eqv_tx (a b : List Str) : PyData.eqv (txD a) (txD b) = decide (a = b) := by simp only [txD, PyData.eqv, eqvAll_strs]
theorem cut1 (xs : List V) : cutV xs (some 1) none = xs.drop 1 := by
  cases xs with
  | nil => unfold cutV; simp
  | cons x xs => exact cut_from (by decide) (by simp; omega)
end OC
set_option Elab.async false
set_option linter.all false
set_option maxRecDepth 100000
set_option maxHeartbeats 2000000
/-! classes of errors of one's own, by name; a caught one asked after; a def that catches what a lambda raises -/
namespace OC
open PySem PySem.Spec PyProof.Rows L2
/-- where the class of this name stands -/
def adr (mg : Str → Option Value) (x : Str) : Addr := match mg x with | some (.ref a) => a | _ => 0
theorem adr_of {mg : Str → Option Value} {x : Str} {C : Addr} (h : mg x = some (.ref C)) : adr mg x = C := by
  unfold adr
  rw [h]
structure ErrC (K : PySem.W.Frag) (mg : Str → Option Value) (x : Str) : Prop where
  g : mg x = some (.ref (adr mg x))
  kp : PySem.W.keepIn K (.ref (adr mg x)) = true
  b : PySem.W.subIn K (.ref (adr mg x)) (.type "BaseException") = some true
  t : PySem.W.typeIn K (.ref (adr mg x)) = some (.type "type")
  d : PySem.W.hasDictIn K (adr mg x) = true
  c : ExcC K (adr mg x)
theorem err_of {K : PySem.W.Frag} {h : Heap} {mg : Str → Option Value} {x : Str} {C : Addr} (X : K.In h) (G : h.Ns mainGlobals mg) (a : PySem.W.nsIn K mainGlobals x = some (some (.ref C)))
    (kp : PySem.W.keepIn K (.ref C) = true) (b : PySem.W.subIn K (.ref C) (.type "BaseException") = some true) (t : PySem.W.typeIn K (.ref C) = some (.type "type")) (d : PySem.W.hasDictIn K C = true)
    (hg : PySem.W.findIn K (.ref C) "__getattribute__" = some (some (.builtin "BaseException.__getattribute__"))) (hk : PySem.W.findIn K (.ref C) "__getattr__" = some none) (ha : PySem.W.findIn K (.ref C) "__class__" = some (some (.builtin "object.__class__")))
    (hm : PySem.W.mroIn K C (.type "object") = some true) (hn : PySem.W.specialIn K (.builtin "object.__class__") "__get__" = some (some (.builtin "getset_descriptor.__get__"))) (ht : PySem.W.takesIn K (.builtin "object.__class__") = some true) : ErrC K mg x := by
  have g := PySem.W.mg_of X G a
  have e := adr_of g
  refine ⟨by rw [e]; exact g, ?_, ?_, ?_, ?_, ?_⟩ <;> rw [e]
  · exact kp
  · exact b
  · exact t
  · exact d
  · exact ⟨hg, hk, b, d, ha, hn, ht, hm⟩
section
variable {K : PySem.W.Frag} {mg : Str → Option Value} {x y : Str}
theorem ErrC.exm (E : ErrC K mg y) {b : Bool} (h : PySem.W.subIn K (.ref (adr mg x)) (.ref (adr mg y)) = some b) : PySem.W.exmOne K (.ref (adr mg x)) (.ref (adr mg y)) = some b :=
  PySem.W.exm_ref E.b E.d E.t h
theorem kit_cls1 {t : Value} (E : ErrC K mg y) {b : Bool} (h : PySem.W.subIn K t (.ref (adr mg y)) = some b) (hb : t = .ref (adr mg y) → b = true) : PySem.W.kitOne K t (.ref (adr mg y)) = some b := by
  obtain ⟨cd, hc, _⟩ := PySem.W.any_some E.d
  have e2 : ((PySem.W.clsIn K (adr mg y)).isSome && PySem.W.typeIn K (.ref (adr mg y)) == some (.type "type")) = true := by rw [hc, E.t] <;> rfl
  unfold PySem.W.kitOne
  by_cases ht : t = .ref (adr mg y)
  · rw [hb ht, ht, if_pos (beq_self_eq_true _)]
  · rw [if_neg (fun z => ht (eq_of_beq z))]
    show (if _ then PySem.W.subIn K t (.ref (adr mg y)) else none) = some b
    rw [if_pos e2]
    exact h
/-- of one class another, an own one -/
theorem kit_own (E : ErrC K mg y) {b : Bool} (h : PySem.W.subIn K (.ref (adr mg x)) (.ref (adr mg y)) = some b) (hb : adr mg x = adr mg y → b = true) : PySem.W.kitOne K (.ref (adr mg x)) (.ref (adr mg y)) = some b :=
  kit_cls1 E h fun z => hb (Value.ref.inj z)
/-- of one class a built-in one -/
theorem kit_blt {a : Addr} {T : String} {b : Bool} (hT : PySem.W.kitMeta T = true) (h : PySem.W.subIn K (.ref a) (.type T) = some b) : PySem.W.kitOne K (.ref a) (.type T) = some b := by
  unfold PySem.W.kitOne
  rw [if_neg (fun z => by cases eq_of_beq z)]
  show (if PySem.W.kitMeta T = true then PySem.W.subIn K (.ref a) (.type T) else none) = some b
  rw [if_pos hT]
  exact h
/-- apart where one is none of the other -/
theorem adr_ne {K : PySem.W.Frag} {a b : Addr} (h1 : PySem.W.subIn K (.ref a) (.ref b) = some false) (h2 : PySem.W.subIn K (.ref b) (.ref b) = some true) : a ≠ b := fun z => by
  rw [z, h2] at h1
  cases h1
end
/-- a reading under what it leans on -/
theorem pss_pre {X : Cx} {b : List Stmt} {p : Prop} {t : TS} (h : p → PSs X b t) : PSs X b (fun D σ H => p ∧ t D σ H) := ⟨fun pins s σ H D I ⟨hp, ht⟩ => (h hp).run pins s σ H D I ht⟩
end OC
set_option Elab.async false
set_option linter.all false
set_option maxRecDepth 100000
set_option maxHeartbeats 4000000
/-! what a parting is: parts that rise, their names all of the group -/
namespace OC
open PySem PySem.Spec PyProof.Rows L2 PySem.W
def sl (a b : Str) : Prop := a.cps.toList < b.cps.toList
theorem sl_trans {a b c : Str} (h1 : sl a b) (h2 : sl b c) : sl a c := List.lt_trans h1 h2
theorem sl_irr (a : Str) : ¬ sl a a := List.lt_irrefl _
theorem sl_asym {a b : Str} (h : sl a b) : ¬ sl b a := fun z => sl_irr a (sl_trans h z)
theorem strict_ext {α : Type} {R : α → α → Prop} (irr : ∀ a, ¬ R a a) (as : ∀ a b, R a b → ¬ R b a) : ∀ {l m : List α}, l.Pairwise R → m.Pairwise R → (∀ x, x ∈ l ↔ x ∈ m) → l = m
  | [], m, _, _, h => by
    cases m with
    | nil => rfl
    | cons b m => exact absurd ((h b).mpr List.mem_cons_self) (by simp)
  | a :: l, [], _, _, h => absurd ((h a).mp List.mem_cons_self) (by simp)
  | a :: l, b :: m, h1, h2, h => by
    obtain ⟨p1, q1⟩ := List.pairwise_cons.mp h1
    obtain ⟨p2, q2⟩ := List.pairwise_cons.mp h2
    have e : a = b := by
      rcases List.mem_cons.mp ((h a).mp List.mem_cons_self) with e | ma
      · exact e
      · rcases List.mem_cons.mp ((h b).mpr List.mem_cons_self) with e | mb
        · exact e.symm
        · exact absurd (p1 b mb) (as _ _ (p2 a ma))
    subst e
    have := strict_ext irr as q1 q2 fun x => ⟨fun hx => by
      rcases List.mem_cons.mp ((h x).mp (List.mem_cons_of_mem _ hx)) with e | hm
      · subst e
        exact absurd (p1 x hx) (irr x)
      · exact hm, fun hx => by
      rcases List.mem_cons.mp ((h x).mpr (List.mem_cons_of_mem _ hx)) with e | hm
      · subst e
        exact absurd (p2 x hx) (irr x)
      · exact hm⟩
    rw [this]
theorem ris_cons2 (a b : PyData) (l : List PyData) : risD (a :: b :: l) = (dataLt a b && risD (b :: l)) := by
  unfold risD
  simp
theorem ris_iff {α : Type} {f : α → PyData} {R : α → α → Prop} (tr : ∀ a b c, R a b → R b c → R a c) : ∀ {l : List α}, (l.Pairwise fun a b => (dataLt (f a) (f b) = true ↔ R a b)) → (risD (l.map f) = true ↔ l.Pairwise R)
  | [], _ => by simp [risD]
  | [a], _ => by simp [risD]
  | a :: b :: l, h => by
    obtain ⟨h1, h2⟩ := List.pairwise_cons.mp h
    have ih := ris_iff tr h2
    rw [List.map_cons] at ih
    rw [List.map_cons, List.map_cons, ris_cons2, Bool.and_eq_true, h1 b List.mem_cons_self, ih]
    constructor
    · rintro ⟨x, y⟩
      refine List.pairwise_cons.mpr ⟨fun c hc => ?_, y⟩
      rcases List.mem_cons.mp hc with rfl | hc
      · exact x
      · exact tr _ _ _ x ((List.pairwise_cons.mp y).1 c hc)
    · intro z
      obtain ⟨x, y⟩ := List.pairwise_cons.mp z
      exact ⟨x b List.mem_cons_self, y⟩
theorem pw_all {α : Type} {R : α → α → Prop} (h : ∀ a b, R a b) : ∀ l : List α, l.Pairwise R
  | [] => .nil
  | a :: l => .cons (fun b _ => h a b) (pw_all h l)
theorem lt_strs (a b : Str) : dataLt (.str a) (.str b) = true ↔ sl a b := by
  rw [dataLt_str, decide_eq_true_iff]
  exact Iff.rfl
theorem ris_strs (q : List Str) : risD (q.map PyData.str) = true ↔ q.Pairwise sl :=
  ris_iff (R := sl) (fun _ _ _ => sl_trans) (pw_all lt_strs q)
end OC
set_option Elab.async false
set_option linter.all false
set_option maxRecDepth 100000
set_option maxHeartbeats 4000000
/-! classes of one's own and their methods, by name -/
namespace OC
open PySem PySem.Spec PyProof.Rows L2
structure ClsN (K : PySem.W.Frag) (mg : Str → Option Value) (x : Str) : Prop where
  g : mg x = some (.ref (adr mg x))
  cl : Cls K (adr mg x)
  mkk : PySem.W.makesIn K (adr mg x) = true
  kp : PySem.W.keepIn K (.ref (adr mg x)) = true
/-- a method of the class c: m, by its full name q -/
structure DfM (K : PySem.W.Frag) (mg : Str → Option Value) (c m q : Str) (st : Stmt) (ps : List Str) (dvs : List V) : Prop where
  ex : ∃ (f : Addr) (fd : FuncData) (ds : List Value), Fun K m q st f fd ∧ Vals dvs ds ∧ Binds K fd ps ds ∧ Meth K (adr mg c) m f
structure OkM (P : Program) (w : World) (K : PySem.W.Frag) (mg : Str → Option Value) (base : Heap) (k : Nat) (c m : Str) (ps : List Str) (dvs : List V) (sp : Sp) : Prop where
  ex : ∃ (f : Addr) (fd : FuncData) (ds : List Value), FnOk P w K mg base CX0 k f fd ps sp ∧ Meth K (adr mg c) m f ∧ Vals dvs ds ∧ Binds K fd ps ds
section
variable {P : Program} {w : World} {K : PySem.W.Frag} {mg : Str → Option Value} {base : Heap}
theorem DfM.ok {c m q : Str} {st : Stmt} {N ps : List Str} {dvs : List V} {k : Nat} {sp : Sp} (D : DfM K mg c m q st ps dvs) (S : FnScope N ps (defScope st)) (len : ∀ vs H Q E, sp vs H Q E → vs.length = ps.length)
    (hbody : ∀ (f : Addr) (cdv : Value) (A : Around) (outer : List Env) (s : Shared) (H : Hp) (vs : List V) (Q : VK) (E : XK), Room k (A.deeper (envOfC q (defScope st) s.heap.objs.size f cdv)) → sp vs H Q E →
      ∃ t, PSs (cxOf CX0 P w K mg base N q (defScope st) f cdv A outer s H E).nox (defBody st) t ∧ t { nx := fun _ H' => Q .non H', rt := Q } (start N vs) H) : OkM P w K mg base (k + 1) c m ps dvs sp := by
  obtain ⟨f, fd, ds, F, v, b, g⟩ := D.ex
  exact ⟨f, fd, ds, F.ok S len (hbody f), g, v, b⟩
theorem OkM.mono {c m : Str} {ps : List Str} {dvs : List V} {j k : Nat} {sp : Sp} (O : OkM P w K mg base j c m ps dvs sp) (h : j ≤ k) : OkM P w K mg base k c m ps dvs sp := by
  obtain ⟨f, fd, ds, F, r⟩ := O.ex
  exact ⟨f, fd, ds, F.mono h, r⟩
end
section
variable {X : Cx} {c m : Str} {ps : List Str} {dvs : List V} {k : Nat} {sp : Sp}
/-- o.m(e, ..) -/
theorem pe_methO {pl : Sem Bool} {o e : Expr} {es : List Expr} {ta : TE} {t : TA} {apos pos : Pos} (O : OkM X.prog X.w X.K X.mg X.base k c m ps dvs sp) (C : ClsN X.K X.mg c) (hr : Room k X.A) (he : PE X o ta) (ha : PA X (e :: es) t)
    (hst : starEach (e :: es) X.env = (false, eval e X.env) :: starEach es X.env := by rfl) (hpl : (backTo pos (starEach es X.env)).any (·.1) = false := by rfl)
    (ht : eval (.Call (.Attribute o m apos) (e :: es) [] pos) X.env = (do
      let ov ← eval o X.env
      standAt apos.atName
      let (f, first) ← holding [ov] (getMethod ov m pl)
      callWith pos f first (backTo pos (starEach (e :: es) X.env)) (backToKw pos (keywordEach [] X.env))) := by rfl) :
    PE X (.Call (.Attribute o m apos) (e :: es) [] pos) (tMeth (adr X.mg c) m sp dvs E0 ta t) := by
  obtain ⟨f, fd, ds, F, g, v, b⟩ := O.ex
  exact pe_meth he C.cl g F hr b v pass0 ha hst hpl ht
/-- o.m() -/
theorem pe_methO0 {pl : Sem Bool} {o : Expr} {ta : TE} {apos pos : Pos} (O : OkM X.prog X.w X.K X.mg X.base k c m ps dvs sp) (C : ClsN X.K X.mg c) (hr : Room k X.A) (he : PE X o ta)
    (ht : eval (.Call (.Attribute o m apos) [] [] pos) X.env = (do
      let ov ← eval o X.env
      standAt apos.atName
      let (f, first) ← holding [ov] (getMethod ov m pl)
      callWith pos f first (backTo pos (starEach [] X.env)) (backToKw pos (keywordEach [] X.env))) := by rfl) :
    PE X (.Call (.Attribute o m apos) [] [] pos) (tMeth (adr X.mg c) m sp dvs E0 ta tNil) := by
  obtain ⟨f, fd, ds, F, g, v, b⟩ := O.ex
  exact pe_meth0 he C.cl g F hr b v pass0 ht
/-- C(e, ..) -/
theorem pe_makeO {e : Expr} {es : List Expr} {t : TA} {p pos : Pos} (O : OkM X.prog X.w X.K X.mg X.base k c "__init__" ps dvs sp) (C : ClsN X.K X.mg c) (hr : Room (k + 1) X.A) (hg : Gl X c) (ha : PA X (e :: es) t) (hdb : (c == ("__debug__" : Str)) = false := by decide)
    (he : starEach (e :: es) X.env = (false, eval e X.env) :: starEach es X.env := by rfl) (hpl : (backTo pos (starEach es X.env)).any (·.1) = false := by rfl) :
    PE X (.Call (.Name c p) (e :: es) [] pos) (tMake (adr X.mg c) sp dvs E0 t) := by
  obtain ⟨f, fd, ds, F, g, v, b⟩ := O.ex
  exact pe_make ⟨C.mkk, g.at_, g.fn, C.kp⟩ F hr hg C.g b v pass0 ha hdb he hpl
end
/-- a method whose keyword-only parameters are written -/
structure OkMK (P : Program) (w : World) (K : PySem.W.Frag) (mg : Str → Option Value) (base : Heap) (k : Nat) (c m : Str) (ps : List Str) (n : Nat) (ks : List Str) (sp : Sp) : Prop where
  ex : ∃ (f : Addr) (fd : FuncData), FnOk P w K mg base CX0 k f fd ps sp ∧ Meth K (adr mg c) m f ∧ KBn K fd ps n ks (fun us ws => us ++ ws) (fun vs zs => vs ++ zs)
section
variable {P : Program} {w : World} {K : PySem.W.Frag} {mg : Str → Option Value} {base : Heap}
theorem OkMK.mono {c m : Str} {ps : List Str} {n : Nat} {ks : List Str} {j k : Nat} {sp : Sp} (O : OkMK P w K mg base j c m ps n ks sp) (h : j ≤ k) : OkMK P w K mg base k c m ps n ks sp := by
  obtain ⟨f, fd, F, r⟩ := O.ex
  exact ⟨f, fd, F.mono h, r⟩
end
/-- x(e, .., *y), x a local name that holds a def -/
structure HeldR (P : Program) (w : World) (K : PySem.W.Frag) (mg : Str → Option Value) (base : Heap) (k : Nat) (f : Addr) (sp : Sp) : Prop where
  ex : FnR P w K mg base CX0 k f sp
  kp : PySem.W.keepIn K (.ref f) = true
def tCallLS (P : Program) (w : World) (K : PySem.W.Frag) (mg : Str → Option Value) (base : Heap) (i k : Nat) (t : TA) : TE := fun σ H Q => ∃ (f : Addr) (sp : Sp), σ[i]? = some (some (.ref f)) ∧ HeldR P w K mg base k f sp ∧ t σ H fun vs H1 => sp vs H1 Q E0
section
variable {X : Cx} {k i : Nat} {x : Str} {e : Expr} {es : List Expr} {t : TA} {p pos : Pos}
theorem pe_callLS (hr : Room k X.A) (hN : X.N[i]? = some x) (hv : Vis X.env.scope x) (ha : PA X (e :: es) t)
    (hdb : (x == ("__debug__" : Str)) = false := by decide) (hcd : (x == ("__classdict__" : Str)) = false := by decide)
    (he : starEach (e :: es) X.env = (false, eval e X.env) :: starEach es X.env := by rfl) (hst : (backTo pos (starEach es X.env)).any (·.1) = true := by rfl) :
    PE X (.Call (.Name x p) (e :: es) [] pos) (tCallLS X.prog X.w X.K X.mg X.base i k t) := by
  refine ⟨fun pins s σ H Q I h => ?_⟩
  obtain ⟨f, sp, hs, ⟨F, hk⟩, ht⟩ := h
  refine wpAny_Call_Name_kw (thn ((pe_var (pos := p) hN hv hdb hcd).run pins s σ H (fun v H1 => v = .ref f ∧ H1 = H) I ⟨.ref f, hs, rfl, rfl⟩) fun u s1 ⟨v, H1, I1, r1, q1⟩ => ?_)
  obtain ⟨rfl, rfl⟩ := q1
  cases r1
  refine PySem.W.callWith_S2 (h₀ := X.base) I.ok.mod.kin hk (thn (ha.run pos pins s1 σ _ _ I1 ht) fun us s2 ⟨vs, H2, I2, r, q⟩ => ⟨I2.kIn, ?_⟩) he hst
  exact wpAny_call (run_fnR F hr pass0 I2 r q)
end
theorem OkM.held {P : Program} {w : World} {K : PySem.W.Frag} {mg : Str → Option Value} {base : Heap} {k : Nat} {x : Str} {ps : List Str} {sp : Sp} (O : Ok P w K mg base k x ps sp) : ∃ f, mg x = some (.ref f) ∧ HeldR P w K mg base k f sp := by
  obtain ⟨f, fd, F, g, kp, b⟩ := O.ex
  refine ⟨f, g, ?_, kp⟩
  have := F.raw b .nil
  exact this.imp fun vs H Q E h => by rw [List.append_nil]; exact h
/-! ### len(x) of an instance whose class has a __len__ of its own -/
/-! ### what the end tells of classes and methods -/
section
variable {K : PySem.W.Frag} {h : Heap} {mg : Str → Option Value} {x : Str} {C : Addr}
theorem clsN_of (X : K.In h) (G : h.Ns mainGlobals mg) (a : PySem.W.nsIn K mainGlobals x = some (some (.ref C))) (pg : PySem.W.plainGet K C Str.empty = true) (hd : PySem.W.hasDictIn K C = true) (po : PySem.W.plainOver K C = true)
    (sa : PySem.W.findIn K (.ref C) "__setattr__" = some (some (.builtin "object.__setattr__"))) (mk : PySem.W.makesIn K C = true) (kp : PySem.W.keepIn K (.ref C) = true) : ClsN K mg x := by
  have g := PySem.W.mg_of X G a
  have e := adr_of g
  refine ⟨by rw [e]; exact g, ?_, ?_, ?_⟩ <;> rw [e]
  · exact ⟨pg, hd, po, sa⟩
  · exact mk
  · exact kp
theorem noA_of (X : K.In h) (G : h.Ns mainGlobals mg) (a : PySem.W.nsIn K mainGlobals x = some (some (.ref C))) {f : Str} (n : PySem.W.findIn K (.ref C) f = some none) : NoAttr K (adr mg x) f := by
  rw [adr_of (PySem.W.mg_of X G a)]
  exact n
theorem dfM_of {m q : Str} {st : Stmt} {ps : List Str} {f : Addr} {oc : Value} {od an : Option Addr} {osl : Array (Option Value)} {kV doc pm cdv ct : Value} (X : K.In h) (G : h.Ns mainGlobals mg)
    (a : PySem.W.nsIn K mainGlobals x = some (some (.ref C))) (fi : PySem.W.findIn K (.ref C) m = some (some (.ref f))) (fn : PySem.W.isFn K (.ref f) = true)
    (l : K.lookup f = some ⟨oc, od, .func (PySem.W.fnOf m q (defArgs st) (defBody st) (defScope st) .none kV doc pm an cdv ct), osl⟩)
    (c : PySem.W.codeIn K cdv q = true) (k : PySem.W.keepIn K (.ref f) = true)
    (hb : ∀ (kV doc pm : Value) (an : Option Addr) (cdv ct : Value) (us : List Value), us.length = ps.length → bindArgs (PySem.W.fnOf m q (defArgs st) (defBody st) (defScope st) .none kV doc pm an cdv ct) ⟨us, []⟩ = pure (ps.zip us)) : DfM K mg x m q st ps [] := by
  have F := fun_mk (st := st) l c k
  refine ⟨f, _, [], F, .nil, F.binds hb, ?_⟩
  rw [adr_of (PySem.W.mg_of X G a)]
  exact ⟨fi, fn, k⟩
theorem dfMD_of {m q y : Str} {st : Stmt} {ps : List Str} {n : Nat} {f D : Addr} {oc : Value} {od an : Option Addr} {osl : Array (Option Value)} {kV doc pm cdv ct : Value} (X : K.In h) (G : h.Ns mainGlobals mg)
    (a : PySem.W.nsIn K mainGlobals x = some (some (.ref C))) (fi : PySem.W.findIn K (.ref C) m = some (some (.ref f))) (fn : PySem.W.isFn K (.ref f) = true)
    (l : K.lookup f = some ⟨oc, od, .func (PySem.W.fnOf m q (defArgs st) (defBody st) (defScope st) .none kV doc pm an cdv ct), osl⟩)
    (c : PySem.W.codeIn K cdv q = true) (k : PySem.W.keepIn K (.ref f) = true) (hk : kV = .ref D) (hd : PySem.W.nsIn K D y = some (some .none))
    (hb : ∀ (D : Addr) (doc pm : Value) (an : Option Addr) (cdv ct : Value) (us : List Value), us.length = n → KwChain D [(y, Value.none)] (bindArgs (PySem.W.fnOf m q (defArgs st) (defBody st) (defScope st) .none (.ref D) doc pm an cdv ct) ⟨us, []⟩) (ps.zip (us ++ [Value.none])))
    (hn : n + 1 = ps.length := by rfl) : DfM K mg x m q st ps [.non] := by
  subst hk
  have F := fun_mk (st := st) l c k
  refine ⟨f, _, [.none], F, .cons rfl .nil, fun s us X hl => ?_, ?_⟩
  · rw [List.length_append, List.length_singleton] at hl
    refine BindsTo.of_looks fun M => KwChain.looks X (fun q hq => ?_) (hb D doc pm an cdv ct us (by omega))
    rw [List.mem_singleton.mp hq]
    exact hd
  · rw [adr_of (PySem.W.mg_of X G a)]
    exact ⟨fi, fn, k⟩
end
end OC
namespace OC
open PySem PySem.Spec PyProof.Rows L2
/-! ### constants of the module -/
theorem pe_cstr {X : Cx} {x : Str} {z : Str} {pos : Pos} (h : ∃ t, X.mg x = some (.str z t)) (hg : Gl X x) (hd : (x == ("__debug__" : Str)) = false := by decide) : PE X (.Name x pos) (tC (.str z)) := by
  obtain ⟨t, h⟩ := h
  exact pe_glob hg h ⟨t, rfl⟩ hd
theorem pe_cint {X : Cx} {x : Str} {z : Int} {pos : Pos} (h : ∃ t, X.mg x = some (.int z t)) (hg : Gl X x) (hd : (x == ("__debug__" : Str)) = false := by decide) : PE X (.Name x pos) (tC (.int z)) := by
  obtain ⟨t, h⟩ := h
  exact pe_glob hg h ⟨t, rfl⟩ hd
end OC
set_option Elab.async false
set_option linter.all false
set_option maxRecDepth 100000
set_option maxHeartbeats 4000000
/-! moments and books: what stands in memory, what they mean -/
namespace OC
open PySem PySem.Spec PyProof.Rows L2
/-- a moment: the prime, how many numbers, what the listener and each hand heard -/
structure Mom where
  p : Int
  n : Nat
  called : List (List Int)
  hands : List (Str × List (List Int))
/-- what hands, or the listener, heard -/
def heardM (m : Mom) (ns : List Str) : List (List Int) := if ns = [] then m.called else selR ns m.hands
structure MomOk (B : Nat) (m : Mom) : Prop where
  fld : Fld m.p
  p1 : m.p ≤ 1000
  n1 : 1 ≤ m.n
  n8 : m.n ≤ 8
  okc : RowsOk m.p m.n m.called
  okh : ∀ h ∈ m.hands, RowsOk m.p m.n h.2
  inn : ∀ h ∈ m.hands, ∀ r ∈ m.called, InR m.p h.2 r
  few : 2 ≤ m.hands.length
  many : m.hands.length ≤ 6
  srt : sortedS (m.hands.map Prod.fst) = true
  nd : (m.hands.map Prod.fst).Nodup
  nm : ∀ x ∈ m.hands.map Prod.fst, NameOk x
  lc : m.called.length ≤ B
  lh : ∀ h ∈ m.hands, h.2.length ≤ B
theorem MomOk.mono {B B' : Nat} {m : Mom} (h : MomOk B m) (l : B ≤ B') : MomOk B' m := { h with lc := Nat.le_trans h.lc l, lh := fun x hx => Nat.le_trans (h.lh x hx) l }
/-! ### in memory -/
def momF (p : Int) (n : Nat) (c h : Addr) : List (Str × V) := putF "hands" (.ref h) (putF "called" (.ref c) (putF "n" (.int (n : Int)) (putF "p" (.int p) [])))
theorem momF_p {p : Int} {n : Nat} {c h : Addr} : (momF p n c h).lookup ("p" : Str) = some (.int p) := by
  unfold momF
  rw [lookup_putF, if_neg (by decide +kernel), lookup_putF, if_neg (by decide +kernel), lookup_putF, if_neg (by decide +kernel), lookup_putF, if_pos rfl]
theorem momF_n {p : Int} {n : Nat} {c h : Addr} : (momF p n c h).lookup ("n" : Str) = some (.int (n : Int)) := by
  unfold momF
  rw [lookup_putF, if_neg (by decide +kernel), lookup_putF, if_neg (by decide +kernel), lookup_putF, if_pos rfl]
theorem momF_called {p : Int} {n : Nat} {c h : Addr} : (momF p n c h).lookup ("called" : Str) = some (.ref c) := by
  unfold momF
  rw [lookup_putF, if_neg (by decide +kernel), lookup_putF, if_pos rfl]
theorem momF_hands {p : Int} {n : Nat} {c h : Addr} : (momF p n c h).lookup ("hands" : Str) = some (.ref h) := by
  unfold momF
  rw [lookup_putF, if_pos rfl]
def MomAt (K : PySem.W.Frag) (mg : Str → Option Value) (H : Hp) (a : Addr) (m : Mom) : Prop :=
  ∃ dx c h, H a = some (.ins (adr mg "Moment") dx (momF m.p m.n c h)) ∧ RowsAt K H c m.called ∧ Dp K H (.ref h) (.tuple (m.hands.map handD))
def bookF (w t u v : Addr) (am : Bool) : List (Str × V) := putF "amid" (.bl am) (putF "trials" (.ref v) (putF "done" (.ref u) (putF "moments" (.ref t) (putF "made" (.ref w) []))))
section
variable {w t u v : Addr} {am : Bool}
theorem bookF_amid : (bookF w t u v am).lookup ("amid" : Str) = some (.bl am) := by
  unfold bookF
  rw [lookup_putF, if_pos rfl]
theorem bookF_done : (bookF w t u v am).lookup ("done" : Str) = some (.ref u) := by
  unfold bookF
  rw [lookup_putF, if_neg (by decide +kernel), lookup_putF, if_neg (by decide +kernel), lookup_putF, if_pos rfl]
theorem bookF_moments : (bookF w t u v am).lookup ("moments" : Str) = some (.ref t) := by
  unfold bookF
  rw [lookup_putF, if_neg (by decide +kernel), lookup_putF, if_neg (by decide +kernel), lookup_putF, if_neg (by decide +kernel), lookup_putF, if_pos rfl]
theorem bookF_none {f : Str} (h1 : ¬ f = "amid") (h2 : ¬ f = "trials") (h3 : ¬ f = "done") (h4 : ¬ f = "moments") (h5 : ¬ f = "made") : (bookF w t u v am).lookup f = none := by
  unfold bookF
  rw [lookup_putF, if_neg h1, lookup_putF, if_neg h2, lookup_putF, if_neg h3, lookup_putF, if_neg h4, lookup_putF, if_neg h5]
  rfl
theorem bookF_eq : bookF w t u v am = ([(("made" : Str), V.ref w), (("moments" : Str), V.ref t), (("done" : Str), V.ref u), (("trials" : Str), V.ref v), (("amid" : Str), V.bl am)] : List (Str × V)) := by
  have e1 : ¬ (("made" : Str) = "moments") := by decide +kernel
  have e2 : ¬ (("made" : Str) = "done") := by decide +kernel
  have e3 : ¬ (("made" : Str) = "trials") := by decide +kernel
  have e4 : ¬ (("made" : Str) = "amid") := by decide +kernel
  have e5 : ¬ (("moments" : Str) = "done") := by decide +kernel
  have e6 : ¬ (("moments" : Str) = "trials") := by decide +kernel
  have e7 : ¬ (("moments" : Str) = "amid") := by decide +kernel
  have e8 : ¬ (("done" : Str) = "trials") := by decide +kernel
  have e9 : ¬ (("done" : Str) = "amid") := by decide +kernel
  have e0 : ¬ (("trials" : Str) = "amid") := by decide +kernel
  unfold bookF
  simp only [putF, if_neg e1, if_neg e2, if_neg e3, if_neg e4, if_neg e5, if_neg e6, if_neg e7, if_neg e8, if_neg e9, if_neg e0]
theorem bookF_setMoments (z : Addr) : putF "moments" (.ref z) (bookF w t u v am) = bookF w z u v am := by
  rw [bookF_eq, bookF_eq]
  have e1 : ¬ (("made" : Str) = "moments") := by decide +kernel
  simp only [putF, if_neg e1, if_true]
theorem bookF_setDone (z : Addr) : putF "done" (.ref z) (bookF w t u v am) = bookF w t z v am := by
  rw [bookF_eq, bookF_eq]
  have e1 : ¬ (("made" : Str) = "done") := by decide +kernel
  have e2 : ¬ (("moments" : Str) = "done") := by decide +kernel
  simp only [putF, if_neg e1, if_neg e2, if_true]
theorem bookF_len : (bookF w t u v am).length = 5 := by rw [bookF_eq]; rfl
end
/-- the deeds -/
inductive Deed where
  | call (x : Str) (r : List Int)
  | whisper (ns : List Str) (r : List Int)
  | meet (ns : List Str)
  | hide
  | change (k : Nat) (r : List Int)
  | come (x : Str) (rs : List (List Int))
  | go (x : Str)
def strsD (ns : List Str) : PyData := .tuple (ns.map PyData.str)
def deedD : Deed → PyData
  | .call x r => .tuple [.str "call", .str x, rowD r]
  | .whisper ns r => .tuple [.str "whisper", strsD ns, rowD r]
  | .meet ns => .tuple [.str "meet", strsD ns]
  | .hide => .tuple [.str "hide"]
  | .change k r => .tuple [.str "change", .int k, rowD r]
  | .come x rs => .tuple [.str "come", .str x, .tuple (rs.map rowD)]
  | .go x => .tuple [.str "go", .str x]
theorem noL_strsA : ∀ ns : List Str, noLAll (ns.map PyData.str) = true
  | [] => rfl
  | x :: ns => by simp only [List.map_cons, noLAll, noL, Bool.true_and]; exact noL_strsA ns
theorem noL_strsD (ns : List Str) : noL (strsD ns) = true := by
  unfold strsD
  simp only [noL]
  exact noL_strsA ns
theorem noL_deed (d : Deed) : noL (deedD d) = true := by
  cases d with
  | call x r => simp only [deedD, noL, noLAll, noL_row, Bool.and_true]
  | whisper ns r => simp only [deedD, noL, noLAll, noL_row, noL_strsD, Bool.and_true]
  | meet ns => simp only [deedD, noL, noLAll, noL_strsD, Bool.and_true]
  | hide => rfl
  | change k r => simp only [deedD, noL, noLAll, noL_row, Bool.and_true]
  | come x rs =>
    have h := noL_rows rs
    simp only [deedD, noL, noLAll, h, Bool.and_true]
  | go x => simp only [deedD, noL, noLAll, Bool.and_true]
theorem noL_deeds : ∀ ds : List Deed, noLAll (ds.map deedD) = true
  | [] => rfl
  | d :: ds => by simp only [List.map_cons, noLAll, noL_deed, Bool.true_and]; exact noL_deeds ds
/-- a book as it stands: its moments, its deeds, its tries -/
structure BookS where
  made : PyData
  moms : List Mom
  deeds : List Deed
  trials : List PyData
  amid : Bool
def MomsAt (K : PySem.W.Frag) (mg : Str → Option Value) (H : Hp) : List V → List Mom → Prop
  | [], [] => True
  | v :: vs, m :: ms => (∃ a, v = .ref a ∧ MomAt K mg H a m) ∧ MomsAt K mg H vs ms
  | _, _ => False
structure BookAt (K : PySem.W.Frag) (mg : Str → Option Value) (H : Hp) (b : Addr) (q : BookS) : Prop where
  ex : ∃ dx w t u v vs, H b = some (.ins (adr mg "Book") dx (bookF w t u v q.amid)) ∧ SqT K H t vs ∧ MomsAt K mg H vs q.moms ∧ Dp K H (.ref u) (.tuple (q.deeds.map deedD)) ∧ Dp K H (.ref w) q.made ∧ Dp K H (.ref v) (.tuple q.trials)
  nd : noL q.made = true ∧ noLAll q.trials = true
  len : q.moms.length = q.deeds.length + 1
/-! ### what moves nothing of them -/
/-- tuples stand, moments stand -/
structure Mv (mg : Str → Option Value) (H H' : Hp) : Prop where
  tk : Tk H H'
  mo : ∀ a dx p n c h, H a = some (.ins (adr mg "Moment") dx (momF p n c h)) → H' a = some (.ins (adr mg "Moment") dx (momF p n c h))
section
variable {K : PySem.W.Frag} {mg : Str → Option Value} {H H' H'' : Hp} {a b : Addr} {m : Mom} {q : BookS}
theorem Mv.refl : Mv mg H H := ⟨Tk.refl _, fun _ _ _ _ _ _ h => h⟩
theorem Mv.of (s : Same H H') : Mv mg H H' := ⟨Tk.of s, fun _ _ _ _ _ _ h => s _ _ h⟩
theorem Mv.trans (x : Mv mg H H') (y : Mv mg H' H'') : Mv mg H H'' := ⟨x.tk.trans y.tk, fun a dx p n c h e => y.mo a dx p n c h (x.mo a dx p n c h e)⟩
theorem RowsAt.tk {a : Addr} {rs : List (List Int)} (t : Tk H H') (h : RowsAt K H a rs) : RowsAt K H' a rs := by
  obtain ⟨ws, e, d⟩ := h
  exact ⟨ws, t _ _ _ e, dpAll_tk t _ _ (noL_rows _) d⟩
theorem noL_handsT (hs : List (Str × List (List Int))) : noL (.tuple (hs.map handD)) = true := by
  simp only [noL]
  exact noL_hands hs
theorem MomAt.mv (x : Mv mg H H') (h : MomAt K mg H a m) : MomAt K mg H' a m := by
  obtain ⟨dx, c, hh, e, r, d⟩ := h
  exact ⟨dx, c, hh, x.mo _ _ _ _ _ _ e, r.tk x.tk, dp_tk x.tk _ _ (noL_handsT _) d⟩
theorem MomAt.same (s : Same H H') (h : MomAt K mg H a m) : MomAt K mg H' a m := h.mv (.of s)
theorem MomsAt.mv (x : Mv mg H H') : ∀ {vs : List V} {ms : List Mom}, MomsAt K mg H vs ms → MomsAt K mg H' vs ms
  | [], [], _ => trivial
  | v :: vs, m :: ms, ⟨⟨a, e, h⟩, r⟩ => ⟨⟨a, e, h.mv x⟩, MomsAt.mv x r⟩
  | [], _ :: _, h => h.elim
  | _ :: _, [], h => h.elim
theorem MomsAt.len : ∀ {vs : List V} {ms : List Mom}, MomsAt K mg H vs ms → vs.length = ms.length
  | [], [], _ => rfl
  | v :: vs, m :: ms, ⟨_, r⟩ => by rw [List.length_cons, List.length_cons, MomsAt.len r]
  | [], _ :: _, h => h.elim
  | _ :: _, [], h => h.elim
theorem MomsAt.get : ∀ {vs : List V} {ms : List Mom} {i : Nat} {m : Mom}, MomsAt K mg H vs ms → ms[i]? = some m → ∃ a, vs[i]? = some (.ref a) ∧ MomAt K mg H a m
  | [], [], _, _, _, h => by simp at h
  | v :: vs, m :: ms, 0, m', ⟨⟨a, e, h⟩, _⟩, g => by
    cases g
    exact ⟨a, by rw [e]; rfl, h⟩
  | v :: vs, m :: ms, i + 1, m', ⟨_, r⟩, g => by
    obtain ⟨a, e, h⟩ := MomsAt.get (i := i) (m := m') r (by simpa using g)
    exact ⟨a, by simpa using e, h⟩
  | [], _ :: _, _, _, h, _ => h.elim
  | _ :: _, [], _, _, h, _ => h.elim
theorem MomsAt.append : ∀ {vs vs' : List V} {ms ms' : List Mom}, MomsAt K mg H vs ms → MomsAt K mg H vs' ms' → MomsAt K mg H (vs ++ vs') (ms ++ ms')
  | [], _, [], _, _, h => h
  | v :: vs, _, m :: ms, _, ⟨e, r⟩, h => ⟨e, MomsAt.append r h⟩
  | [], _, _ :: _, _, h, _ => h.elim
  | _ :: _, _, [], _, h, _ => h.elim
theorem MomsAt.take : ∀ {vs : List V} {ms : List Mom} (i : Nat), MomsAt K mg H vs ms → MomsAt K mg H (vs.take i) (ms.take i)
  | _, _, 0, _ => by simp [MomsAt]
  | [], [], i + 1, _ => by simp [MomsAt]
  | v :: vs, m :: ms, i + 1, ⟨e, r⟩ => by
    rw [List.take_succ_cons, List.take_succ_cons]
    exact ⟨e, MomsAt.take i r⟩
  | [], _ :: _, _ + 1, h => h.elim
  | _ :: _, [], _ + 1, h => h.elim
theorem noL_tup {ds : List PyData} (h : noLAll ds = true) : noL (.tuple ds) = true := by
  simp only [noL]
  exact h
theorem BookAt.mv (x : Mv mg H H') (hb : ∀ o, H b = some o → H' b = some o) (h : BookAt K mg H b q) : BookAt K mg H' b q := by
  obtain ⟨⟨dx, w, t, u, v, vs, e, h1, h2, h3, h4, h5⟩, nd, len⟩ := h
  exact ⟨⟨dx, w, t, u, v, vs, hb _ e, x.tk _ _ _ h1, h2.mv x, dp_tk x.tk _ _ (noL_tup (noL_deeds _)) h3, dp_tk x.tk _ _ nd.1 h4, dp_tk x.tk _ _ (noL_tup nd.2) h5⟩, nd, len⟩
theorem BookAt.same (s : Same H H') (h : BookAt K mg H b q) : BookAt K mg H' b q := h.mv (.of s) fun o e => s _ _ e
theorem BookAt.at_ (h : BookAt K mg H b q) : ∃ dx fs, H b = some (.ins (adr mg "Book") dx fs) ∧ ∀ f : Str, ¬ f = "amid" → ¬ f = "trials" → ¬ f = "done" → ¬ f = "moments" → ¬ f = "made" → fs.lookup f = none := by
  obtain ⟨⟨dx, w, t, u, v, vs, e, _⟩, _⟩ := h
  exact ⟨dx, _, e, fun f h1 h2 h3 h4 h5 => bookF_none h1 h2 h3 h4 h5⟩
/-- a store into the book alone -/
def Xc (b : Addr) (H H' : Hp) : Prop := ∀ a o, H a = some o → a ≠ b → H' a = some o
theorem Xc.refl : Xc b H H := fun _ _ h _ => h
theorem Xc.of (s : Same H H') : Xc b H H' := fun _ _ h _ => s _ _ h
theorem Xc.trans (x : Xc b H H') (y : Xc b H' H'') : Xc b H H'' := fun a o h n => y a o (x a o h n) n
theorem Xc.mvI {C dx : Addr} {fs : List (Str × V)} (e : H b = some (.ins C dx fs)) (np : fs.lookup ("p" : Str) = none) (x : Xc b H H') : Mv mg H H' := by
  refine ⟨fun K a xs h => ?_, fun a dx' p n c h e' => ?_⟩
  · rcases h with (h | ⟨o, h⟩) | h
    · exact .inl (.inl (x _ _ h fun z => by rw [z, e] at h; cases h))
    · exact .inl (.inr ⟨o, x _ _ h fun z => by rw [z, e] at h; cases h⟩)
    · exact .inr h
  · refine x _ _ e' fun z => ?_
    rw [z, e] at e'
    have e2 := congrArg (fun o => match o with | some (.ins _ _ fs) => List.lookup ("p" : Str) fs | _ => none) e'
    have e2 : fs.lookup ("p" : Str) = (momF p n c h).lookup ("p" : Str) := e2
    rw [momF_p, np] at e2
    cases e2
theorem Xc.mv {C dx : Addr} {w t u v : Addr} {am : Bool} (e : H b = some (.ins C dx (bookF w t u v am))) (x : Xc b H H') : Mv mg H H' :=
  x.mvI e (bookF_none (by decide +kernel) (by decide +kernel) (by decide +kernel) (by decide +kernel) (by decide +kernel))
theorem BookAt.xc (h : BookAt K mg H b q) (x : Xc b H H') : Mv mg H H' := by
  obtain ⟨⟨dx, w, t, u, v, vs, e, _⟩, _⟩ := h
  exact x.mv e
/-- a deed more -/
def BookS.push (q : BookS) (m : Mom) (d : Deed) : BookS := { q with moms := q.moms ++ [m], deeds := q.deeds ++ [d] }
end
/-- which moment is asked for -/
def AtIdx (q : BookS) (v : V) (i : Nat) : Prop := i < q.moms.length ∧ (v = .non ∧ i + 1 = q.moms.length ∨ v = .int (i : Int))
end OC
set_option Elab.async false
set_option linter.all false
set_option maxRecDepth 100000
set_option maxHeartbeats 4000000
/-! xs.extend(t), t any tuple -/
namespace PySem
open SeqRoads2 AutoSeq1
theorem oc_extend_tup {l b : Addr} {xs ys : Array Value} {n n2 : Nat} {dd : Option Addr} {sl : Array (Option Value)} (h1 : ¬(!xs.isEmpty && Builtin.List.listTooLong (xs.size + ys.size)) = true) (h2 : xs.size ≤ sizeLine) (h3 : xs.size + ys.size ≤ sizeLine + 1) :
    Meets (Builtin.«list.extend» ⟨[.ref l, .ref b], []⟩) (fun _ R s => s.heap.get? l = some { cls := .type "list", dict := none, data := .seq xs n, slots := #[] } ∧ s.heap.get? b = some { cls := .type "tuple", dict := dd, data := .seq ys n2, slots := sl } ∧
      R (.ok (.ret Value.none)) { s with heap := s.heap.update l (Obj.mapSeq fun x => x ++ ys), toks := s.toks }) := by
  refine .of_wp fun prog w A R s h => ?_
  obtain ⟨hp, g, d, tk, os⟩ := s
  obtain ⟨hl, hb, h⟩ := h
  have f2 := sub_tuple_tuple
  have f4 := sub_tuple_list
  have big : (xs ++ ys).size ≤ sizeLine + 1 := by rw [Array.size_append]; exact h3
  wp_walk using (wpAny_updateSeq hl rfl (hz := h2) (_hz' := big)), wpAny_loadPart' hl, wpAny_loadPart' hb
  exact ⟨_, rfl, h⟩
end PySem
namespace OC
open PySem PySem.Spec PyProof.Rows L2
def rExtT (K : PySem.W.Frag) : V → List V → Hp → VK → Prop := fun x vs H Q => ∃ l b xs zs, x = .ref l ∧ vs = [.ref b] ∧ H l = some (.lst xs) ∧ SqT K H b zs ∧ xs.length + zs.length ≤ sizeLine ∧ Q .non (upd H l (.lst (xs ++ zs)))
theorem mt_extT {X : Cx} : MtM X "list.extend" (rExtT X.K) := by
  intro pins s σ H x vs v us Q I rx rv h
  obtain ⟨l, b, xs, zs, rfl, rfl, hH, hB, hz, q⟩ := h
  cases rx
  obtain ⟨u, rfl, ru⟩ := rv.one
  cases ru
  obtain ⟨z, its, n, r, hl, e⟩ := I.lstM hH
  obtain ⟨its2, r2, pl, z2⟩ := I.tuple hB
  obtain ⟨⟨cls, dd, dt, sl⟩, ho, hc, n2, hd⟩ := pl
  simp only at hc hd
  subst hc hd
  have hl2 := r2.length
  have sz : its.toArray.size + its2.toArray.size ≤ sizeLine := by rw [List.size_toArray, List.size_toArray]; omega
  refine call_meets F.slot_list_extend ⟨_, e, rfl⟩ F.entry_list_extend (F.args_list_extend_2 _ _) (oc_extend_tup (by rw [notLongL sz, Bool.and_false]; exact Bool.false_ne_true) (by rw [List.size_toArray]; omega) (by omega)) ⟨e, ho, ?_⟩
  refine ⟨.non, _, I.lset (its' := its ++ its2) hH e (by simp) (r.append r2) ?_, rfl, q⟩
  rw [List.length_append]
  omega
end OC
set_option Elab.async false
set_option linter.all false
set_option maxRecDepth 100000
set_option maxHeartbeats 4000000
/-! methods within a comprehension: the reading must not name the block -/
set_option Elab.async false
set_option linter.all false
set_option maxRecDepth 100000
set_option maxHeartbeats 4000000
/-! what a book's calls mean; what moves no book -/
namespace OC
open PySem PySem.Spec PyProof.Rows L2
section
variable {K : PySem.W.Frag} {mg : Str → Option Value} {H H' H'' : Hp} {b d c : Addr} {t : Int} {q : BookS}
theorem Mv.kept (D : Deck H d c t) (k : Kept d c H H') : Mv mg H H' := by
  refine ⟨Tk.kept D k, fun a dx p n c' h e => k _ _ e (fun z => ?_) (fun z => ?_)⟩
  · rw [z, D.hd] at e; cases e
  · obtain ⟨cells, h1, _⟩ := D.hc
    rw [z, h1] at e; cases e
theorem BookAt.ins (h : BookAt K mg H b q) : ∃ dx fs, H b = some (.ins (adr mg "Book") dx fs) := by
  obtain ⟨⟨dx, w, t, u, v, vs, e, _⟩, _⟩ := h
  exact ⟨dx, _, e⟩
theorem BookAt.kept (D : Deck H d c t) (k : Kept d c H H') (h : BookAt K mg H b q) : BookAt K mg H' b q := by
  obtain ⟨dx, fs, e⟩ := h.ins
  obtain ⟨cells, h1, _⟩ := D.hc
  refine h.mv (.kept D k) fun o eo => k _ _ eo (fun z => ?_) (fun z => ?_)
  · rw [z, D.hd] at e; cases e
  · rw [z, h1] at e; cases e
theorem Deck.xc (D : Deck H d c t) (B : BookAt K mg H b q) (x : Xc b H H') : Deck H' d c t := by
  obtain ⟨dx, fs, e⟩ := B.ins
  obtain ⟨hd, ⟨cells, h1, h2⟩, n, t0⟩ := D
  exact ⟨x _ _ hd (fun z => by rw [z, e] at hd; cases hd), ⟨cells, x _ _ h1 (fun z => by rw [z, e] at h1; cases h1), h2⟩, n, t0⟩
theorem Tabs.xc {T : List (Addr × Str)} (h : LamX.Tabs T H) (B : BookAt K mg H b q) (x : Xc b H H') : LamX.Tabs T H' := fun p hp => by
  obtain ⟨dx, fs, e⟩ := B.ins
  obtain ⟨ps, h1, h2, h3⟩ := h p hp
  refine ⟨ps, x _ _ h1 (fun z => by rw [z, e] at h1; cases h1), h2, fun pos cv hc => ?_⟩
  obtain ⟨c, rfl, hc2⟩ := h3 pos cv hc
  exact ⟨c, rfl, x _ _ hc2 fun z => by rw [z, e] at hc2; cases hc2⟩
end
/-! ### what is known behind calls -/
end OC
set_option Elab.async false
set_option linter.all false
set_option maxRecDepth 100000
set_option maxHeartbeats 4000000
/-! one number more: rows with a 0 behind -/
namespace OC
open PySem PySem.Spec PyProof.Rows L2
def ext0 (r : List Int) : List Int := r ++ [0]
section
variable {q : Nat} [NeZero q]
theorem toV_ext (r : List Int) : toV (q := q) (ext0 r) = toV r := by
  funext i
  unfold toV ext0
  congr 1
  rw [List.getD_eq_getElem?_getD, List.getD_eq_getElem?_getD]
  by_cases h : i < r.length
  · rw [List.getElem?_append_left h]
  · rw [List.getElem?_append_right (by omega), List.getElem?_eq_none (l := r) (by omega)]
    by_cases h2 : i - r.length = 0
    · rw [h2]; rfl
    · rw [List.getElem?_eq_none (by rw [List.length_singleton]; omega)]
theorem mapV_ext (rs : List (List Int)) : (rs.map ext0).map (toV (q := q)) = rs.map toV := by
  rw [List.map_map]
  exact List.map_congr_left fun r _ => toV_ext r
end
theorem InR.ext {p : Int} {rs : List (List Int)} {r : List Int} : InR p (rs.map ext0) r ↔ InR p rs r := by
  constructor
  · intro h q z e
    have := h q z e
    unfold Mk at this ⊢
    rw [mapV_ext] at this
    exact this
  · intro h q z e
    have := h q z e
    unfold Mk at this ⊢
    rw [mapV_ext]
    exact this
end OC
set_option Elab.async false
set_option linter.all false
set_option maxRecDepth 100000
set_option maxHeartbeats 4000000
/-! a book beside drawn numbers; its methods' names are no fields -/
namespace OC
open PySem PySem.Spec PyProof.Rows L2
def bookMs : List Str := ["call", "whisper", "meet", "hide", "change", "come", "go", "back", "tried", "perform_all", "perform", "now", "refuse_amid", "moment_at", "moment_of", "names", "heard", "known", "common", "knows", "why", "learned", "idle", "is_idle", "its_deeds", "stand", "log", "p"]
theorem book_ms : ∀ f ∈ bookMs, ¬ f = "amid" ∧ ¬ f = "trials" ∧ ¬ f = "done" ∧ ¬ f = "moments" ∧ ¬ f = "made" := by decide +kernel
section
variable {K : PySem.W.Frag} {mg : Str → Option Value} {H H' H'' : Hp} {b d c e : Addr} {t : Int} {q : BookS}
theorem BookAt.noF (h : BookAt K mg H b q) : ∃ dx fs, H b = some (.ins (adr mg "Book") dx fs) ∧ ∀ f ∈ bookMs, fs.lookup f = none := by
  obtain ⟨dx, fs, e, h⟩ := h.at_
  refine ⟨dx, fs, e, fun f mf => ?_⟩
  obtain ⟨h1, h2, h3, h4, h5⟩ := book_ms f mf
  exact h f h1 h2 h3 h4 h5
end
end OC
set_option Elab.async false
set_option linter.all false
set_option maxRecDepth 100000
set_option maxHeartbeats 4000000
/-! what the other deeds make of a moment -/
namespace OC
open PySem PySem.Spec PyProof.Rows L2 Lin
/-! ### a meeting -/
theorem heard_okM {B : Nat} {m : Mom} (M : MomOk B m) (ns : List Str) : RowsOk m.p m.n (heardM m ns) := by
  unfold heardM
  split
  · exact M.okc
  · exact sel_ok M.okh
/-! ### a change -/
/-! ### a hand comes, a hand goes -/
end OC
set_option Elab.async false
set_option linter.all false
set_option maxRecDepth 100000
set_option maxHeartbeats 4000000
/-! rows of some hands, hand by hand -/
namespace OC
open PySem PySem.Spec PyProof.Rows L2
theorem selR_cons (ns : List Str) (h : Str × List (List Int)) (hs : List (Str × List (List Int))) : selR ns (h :: hs) = (if h.1 ∈ ns then h.2 else []) ++ selR ns hs := rfl
theorem selR_cong {ns ms : List Str} : ∀ {hs : List (Str × List (List Int))}, (∀ h ∈ hs, (h.1 ∈ ns ↔ h.1 ∈ ms)) → selR ns hs = selR ms hs
  | [], _ => rfl
  | h :: hs, e => by
    rw [selR_cons, selR_cons, selR_cong fun x hx => e x (List.mem_cons_of_mem _ hx)]
    have := e h List.mem_cons_self
    by_cases hm : h.1 ∈ ns
    · rw [if_pos hm, if_pos (this.mp hm)]
    · rw [if_neg hm, if_neg fun z => hm (this.mpr z)]
theorem selR_out {x : Str} : ∀ {hs : List (Str × List (List Int))}, x ∉ hs.map Prod.fst → selR [x] hs = []
  | [], _ => rfl
  | h :: hs, n => by
    rw [List.map_cons] at n
    have n1 : ¬ h.1 ∈ [x] := fun z => n (by rw [← List.mem_singleton.mp z]; exact List.mem_cons_self)
    rw [selR_cons, if_neg n1, selR_out fun z => n (List.mem_cons_of_mem _ z)]
    rfl
/-- in the hands' order: hand by hand -/
theorem selR_sub : ∀ {hs : List (Str × List (List Int))} {ns : List Str}, (hs.map Prod.fst).Nodup → ns.Sublist (hs.map Prod.fst) → selR ns hs = ns.flatMap fun x => selR [x] hs
  | [], ns, _, s => by
    rw [List.eq_nil_of_sublist_nil s]
    rfl
  | h :: hs, ns, nd, s => by
    rw [List.map_cons] at nd s
    obtain ⟨n1, n2⟩ := List.nodup_cons.mp nd
    have other : ∀ {ms : List Str}, ms.Sublist (hs.map Prod.fst) → (ms.flatMap fun x => selR [x] (h :: hs)) = ms.flatMap fun x => selR [x] hs := fun {ms} sm => by
      unfold List.flatMap
      congr 1
      refine List.map_congr_left fun x hx => ?_
      have ne : ¬ h.1 ∈ [x] := fun z => n1 (by rw [List.mem_singleton.mp z]; exact sm.subset hx)
      rw [selR_cons, if_neg ne]
      rfl
    cases s with
    | cons _ s =>
      have ne : h.1 ∉ ns := fun z => n1 (s.subset z)
      rw [selR_cons, if_neg ne, other s, ← selR_sub n2 s]
      rfl
    | cons_cons _ s =>
      rename_i ms
      have e1 : selR (h.1 :: ms) hs = selR ms hs := selR_cong fun x hx => by
        have ne : x.1 ≠ h.1 := fun z => n1 (z ▸ List.mem_map_of_mem hx)
        rw [List.mem_cons]
        exact ⟨fun z => z.elim (fun w => absurd w ne) id, .inr⟩
      rw [selR_cons, if_pos List.mem_cons_self, e1, List.flatMap_cons, other s, ← selR_sub n2 s, selR_cons, if_pos List.mem_cons_self, selR_out n1, List.append_nil]
end OC
set_option Elab.async false
set_option linter.all false
set_option maxRecDepth 100000
set_option maxHeartbeats 2000000
/-! errors of one's own whose __init__ keeps one thing as a field: made, raised, the field read of a caught one; whatever built-in they stand over -/
namespace OC
open PySem PySem.Spec PyProof.Rows L2
open PySem.W PySem.Calls PySem.HandSPX Builtin.ObjectAttr
/-- the class x, over the built-in with the chain bm: its __init__(self, fld) puts the one thing it's handed into the field fld -/
structure ErrF (K : PySem.W.Frag) (mg : Str → Option Value) (x fld : Str) (bm : List Value) (nw : String) : Prop where
  mkk : PySem.W.excInitIn K (adr mg x) bm nw = true
  ov : PySem.W.excOver K (adr mg x) bm = true
  sa : PySem.W.findIn K (.ref (adr mg x)) "__setattr__" = some (some (.builtin "object.__setattr__"))
  no : PySem.W.findIn K (.ref (adr mg x)) fld = some none
  fn : ∃ (fI : Addr) (oc : Value) (od : Option Addr) (q : Str) (ar : Arguments) (sc : Scope) (kV doc pm : Value) (an : Option Addr) (cdv ct : Value) (osl : Array (Option Value)) (q1 q2 q3 q4 : Pos),
    PySem.W.findIn K (.ref (adr mg x)) "__init__" = some (some (.ref fI)) ∧ PySem.W.typeIn K (.ref fI) = some (.type "function") ∧
    K.lookup fI = some ⟨oc, od, .func (PySem.W.fnOf "__init__" q ar [.Assign [.Attribute (.Name "self" q1) fld q2] (.Name fld q3) q4] sc .none kV doc pm an cdv ct), osl⟩ ∧ PySem.W.codeIn K cdv q = true ∧
    (∀ (s : Shared) (self v : Value), BindsTo s (PySem.W.fnOf "__init__" q ar [.Assign [.Attribute (.Name "self" q1) fld q2] (.Name fld q3) q4] sc .none kV doc pm an cdv ct) ⟨[self, v], []⟩ [("self", self), (fld, v)]) ∧
    sc = { kind := .function, names := [(PySem.Str.ofString "self", .local), (fld, .local)], isGenerator := false, isCoroutine := false } ∧ ((fld == ("self" : Str)) = false ∧ (fld == ("__debug__" : Str)) = false)
section
variable {prog : Program} {w : World} {A : Around} {R : Result → Shared → Prop} {K : PySem.W.Frag} {mg : Str → Option Value} {x fld : Str} {bm : List Value} {B nw ini : String} {s : Shared}
/-- the first store into an error without a dict, over any built-in -/
theorem osa_first {hp : Heap} {g : Array GenState} {dr : Drawn} {t : Nat} {os : OsState} {name : Str} {tk : Tok} {v : Value} {a C : Addr} {fv : Array Value} (SF : StoreFacts B bm "object.__setattr__" "object") (X : K.In hp)
    (ha : hp.get? a = some { cls := .ref C, data := .fields fv }) (ov : PySem.W.excOver K C bm = true) (hh : PySem.W.hasDictIn K C = true) (hn : PySem.W.findIn K (.ref C) name = some none)
    (hq : ∀ h' tk' dx, (∀ b o, b ≠ a → hp.get? b = some o → h'.get? b = some o) → hp.objs.size ≤ dx → dx ≠ a → h'.get? a = some { cls := .ref C, dict := some dx, data := .fields fv } → h'.Ns1 dx (fun y => if y = name then some v else none) → R (.ok (.ret .none)) ⟨h', g, dr, tk', os⟩) :
    codeAny (model prog w) A (.call (.builtin "object.__setattr__") ⟨[.ref a, .str name tk, v], []⟩) R ⟨hp, g, dr, t, os⟩ := by
  refine PySem.W.osa_openX (od := none) (r := none) (s := ⟨hp, g, dr, t, os⟩) SF X ⟨ha, rfl, rfl, trivial⟩ ov (by unfold PySem.W.takerIn; rw [hn]; rfl) fun b => ?_
  obtain ⟨cd, hc, hd⟩ := PySem.W.any_some hh
  have hne : hp.objs.size ≠ a := Nat.ne_of_gt (Heap.lt_size ha)
  have lc : PySem.W.Looks (model prog w) hp (classData C) cd := PySem.W.looks_clsIn X hc
  show wpAny _ _ (storeInOwnDict (.ref a) (.ref C) (.str name tk) name v b) _ _ _
  unfold storeInOwnDict ownDictForStores
  obtain ⟨nm, bs, mro, ns, qn, hd', sn, sb, ab, col, del⟩ := cd
  dsimp only at hd
  subst hd
  repeat (first | with_reducible refine store_in_new ?_ ?_ | with_reducible refine wpAny_loadPart_at ha ?_ | with_reducible refine lc.at ?_ | wp_step)
  · exact ⟨_, #[], _, (Heap.get?_update_ne _ _ _ _ hne).trans (Heap.get?_push_at rfl rfl), rfl, fun e he => absurd he (by simp), fun _ => rfl⟩
  · intro h' tk' hn' hs
    refine hq h' tk' hp.objs.size (fun b o hb ho => ?_) (Nat.le_refl _) hne ?_ hn'
    · exact (hs.2 b (Nat.ne_of_lt (Heap.lt_size ho))).trans ((Heap.get?_update_ne _ _ _ _ hb).trans (Heap.get?_push_of_some _ ho))
    · exact (hs.2 a (Ne.symm hne)).trans (Heap.get?_update_self _ (Heap.get?_push_of_some _ ha) rfl)
/-- a made error at e: its one field stands in its own new dict d -/
structure Mde (h h' : Heap) (e C d : Addr) (fld : Str) (v : Value) : Prop where
  old : ∀ b o, h.get? b = some o → h'.get? b = some o
  fresh : h.objs.size ≤ e
  freshd : h.objs.size ≤ d
  ne : d ≠ e
  ob : ∃ t, h'.get? e = some { cls := .ref C, dict := some d, data := .fields #[.ref t, .none, .none, .none, .bool false, .none] }
  fs : h'.Ns1 d (fun y => if y = fld then some v else none)
theorem made_fld (F : ErrF K mg x fld bm nw) (hd : PySem.W.hasDictIn K (adr mg x) = true) (FB : ExcBaseFacts B nw ini bm) (SF : StoreFacts B bm "object.__setattr__" "object") {v : Value} (X : K.In s.heap) (hlim : s.heap.NoLimit) (hroom : A.depth + 1 < recursionLimit)
    (hq : ∀ h' tk e d, Mde s.heap h' e (adr mg x) d fld v → R (.ok (.ret (.ref e))) { s with heap := h', toks := tk }) : codeAny (model prog w) A (.call (.ref (adr mg x)) ⟨[v], []⟩) R s := by
  obtain ⟨fI, oc, od, q, ar, sc, kV, doc, pm, an, cdv, ct, osl, q1, q2, q3, q4, hi, ht, lk, hcd, hb, rfl, n1, n2⟩ := F.fn
  obtain ⟨nm, N, qn, bs, bm', hdct, sn, sub, ab, col, dd, k0, k1, k2, k3, k5, hC, hT⟩ := PySem.W.excInit_of X F.mkk
  obtain ⟨hp, g, dr, tk, os⟩ := s
  refine call_own FB hT hC (looks_findIn X hi) (fun self => bind_fn X self ht) (by show 1 ≤ sizeLine; rw [sizeLine_eq]; omega) ?_
  have up : ∀ b o, hp.get? b = some o → ((hp.push (kdv_tup [v])).push (excO (adr mg x) hp.objs.size)).get? b = some o := fun b o e => Heap.get?_push_of_some _ (Heap.get?_push_of_some _ e)
  have there : ((hp.push (kdv_tup [v])).push (excO (adr mg x) hp.objs.size)).get? (hp.objs.size + 1) = some (excO (adr mg x) hp.objs.size) := by heap_get
  refine Att.call_fn (s := ⟨(hp.push (kdv_tup [v])).push (excO (adr mg x) hp.objs.size), g, dr, tk, os⟩) (binds := [("self", .ref (hp.objs.size + 1)), (fld, v)]) (X.keeps up) (hlim.keeps up) lk hcd (by show A.depth + 1 < recursionLimit; exact hroom) (hb _ _ _) ?_ (fun s1 IC => ?_) rfl rfl rfl
  · simp only [List.all_cons, List.all_nil, Bool.and_true, List.lookup]
    rw [n1]
    simp
  · obtain ⟨h1, tk1, rfl⟩ := IC.toInCall.same
    have k1 := IC.toInCall.keep
    have hn := IC.toInCall.ns
    have X1 : K.In h1 := (X.keeps up).keeps k1
    have there1 := k1 _ _ there
    have ne : ("self" : Str) ≠ fld := fun z => by rw [← z] at n1; exact absurd n1 (by decide)
    generalize hE : envOfC q _ _ fI cdv = env at hn ⊢
    have kS : env.kindOf "self" = some .local := by rw [← hE]; rfl
    have kF : env.kindOf fld = some .local := by
      rw [← hE]
      show List.lookup fld [((Str.ofString "self" : Str), NameKind.local), (fld, NameKind.local)] = some .local
      have n1' : (fld == Str.ofString "self") = false := n1
      simp [List.lookup, n1']
    have lF : bindL env.kindOf [((Str.ofString "self" : Str), Value.ref (hp.objs.size + 1)), (fld, v)] (fun _ => none) fld = some v := by
      show (if env.kindOf fld = some .local then (fun y => if y = fld then some v else _) else _) fld = some v
      rw [if_pos kF, if_pos rfl]
    have lS : bindL env.kindOf [((Str.ofString "self" : Str), Value.ref (hp.objs.size + 1)), (fld, v)] (fun _ => none) "self" = some (.ref (hp.objs.size + 1)) := by
      show (if env.kindOf fld = some .local then (fun y => if y = fld then some v else (if env.kindOf "self" = some .local then (fun y => if y = Str.ofString "self" then some (Value.ref (hp.objs.size + 1)) else none) else _) y) else _) "self" = _
      rw [if_pos kF, if_neg ne, if_pos kS, if_pos rfl]
    have kk : env.scope.kind = .function := by rw [← hE]; rfl
    have eL : ((hp.push (kdv_tup [v])).push (excO (adr mg x) hp.objs.size)).objs.size = env.locals := by rw [← hE]; rfl
    have hn2 : h1.Ns env.locals (bindL env.kindOf [((Str.ofString "self" : Str), Value.ref (hp.objs.size + 1)), (fld, v)] fun _ => none) := by rw [← eL]; exact hn
    refine wpAny_execs_cons (plainObj_wpAny_Assign_Attribute ?_)
    refine wpAny_Name (wpAny_loadName_local kk kF hn2 lF ?_) n2
    refine wpAny_Name (wpAny_loadName_local kk kS hn2 lS ?_) (by decide)
    refine set_plain X1 (ox := excO (adr mg x) hp.objs.size) (od := none) ⟨there1, rfl, rfl, trivial⟩ F.sa ?_
    refine osa_first SF X1 there1 F.ov hd F.no fun h3 tk3 dx k3 hdx ne3 hx3 ns3 => ?_
    refine wpAny_execs_nil ?_
    have z : hp.objs.size ≤ h1.objs.size := by
      have lt : ((hp.push (kdv_tup [v])).push (excO (adr mg x) hp.objs.size)).objs.size < h1.objs.size := hn.lt
      rw [Heap.size_push, Heap.size_push] at lt
      omega
    have hdx' : h1.objs.size ≤ dx := hdx
    exact ⟨rfl, hq h3 tk3 (hp.objs.size + 1) dx ⟨fun b o e => k3 b o (Nat.ne_of_lt (Nat.lt_succ_of_lt (Heap.lt_size e))) (k1 b o (up b o e)), Nat.le_succ _, by show hp.objs.size ≤ dx; omega, ne3, ⟨_, hx3⟩, ns3⟩⟩
end
end OC
namespace OC
open PySem PySem.Spec PyProof.Rows L2
theorem relO_fld {v : V} {v' : Value} (r : RelV v v') (fld f : Str) : RelO (List.lookup f [(fld, v)]) (if f = fld then some v' else none) := by
  by_cases h : f = fld
  · subst h
    rw [if_pos rfl, show List.lookup f [(f, v)] = some v by simp [List.lookup]]
    exact r
  · rw [if_neg h, show List.lookup f [(fld, v)] = none by simp [List.lookup, (beq_eq_false_iff_ne.mpr h)]]
    trivial
section
variable {X : Cx} {x fld : Str} {bm : List Value} {B nw ini : String}
/-- x(e): the error's class stands at C, its field in the new dict -/
def tMkF (C : Addr) (fld : Str) (ta : TA) : L2.St → Hp → XK → Prop := fun σ H Q => ta σ H fun vs H1 => ∃ v, vs = [v] ∧ ∀ d, H1 d = none → Q (.ref C) (some d) (upd H1 d (.xd [(fld, v)]))
theorem pmk_fld {a : Expr} {ta : TA} {p pos : Pos} {k : Nat} (F : ErrF X.K X.mg x fld bm nw) (E : ErrC X.K X.mg x) (FB : ExcBaseFacts B nw ini bm) (SF : StoreFacts B bm "object.__setattr__" "object") (hr : Room (k + 1) X.A) (ha : PA X [a] ta) (hg : Gl X x := by rfl) (hdb : (x == ("__debug__" : Str)) = false := by decide)
    (he : starEach (a :: []) X.env = (false, eval a X.env) :: starEach [] X.env := by rfl) (hpl : (backTo pos (starEach [] X.env)).any (·.1) = false := by rfl) : PMk X (.Call (.Name x p) [a] [] pos) (tMkF (adr X.mg x) fld ta) := by
  intro pins s σ H Q I h
  refine wpAny_Call_Name_kw (ld_glob I hg E.g ?_ hdb)
  refine PySem.W.callWith_K (h₀ := X.base) I.ok.mod.kin E.kp (thn (ha.run pos pins s σ H _ I h) fun us s1 hh => ?_) he hpl
  obtain ⟨vs, H1, I1, r1, v, rfl, q1⟩ := hh
  refine ⟨I1.kIn, ?_⟩
  obtain ⟨v', rfl, rv⟩ : ∃ v', us = [v'] ∧ RelV v v' := by
    cases r1 with
    | cons rv rn => cases rn; exact ⟨_, rfl, rv⟩
  have hlim := I1.nolimit
  obtain ⟨hp, g, dr, tk, os⟩ := s1
  refine wpAny_call (made_fld F E.d FB SF I1.kIn hlim (by have := hr.dp; omega) fun h' tk' e d M => ?_)
  obtain ⟨t, hoe⟩ := M.ob
  obtain ⟨G', g1, g2⟩ := restrict h' fun b => decide (b ≠ e)
  have gn : G'.get? e = none := g2 e (by simp)
  have gk : ∀ b, b ≠ e → G'.get? b = h'.get? b := fun b hb => g1 b (decide_eq_true hb)
  have ob : ObjOk X.prog X.w (upd H1 d (.xd [(fld, v)])) G' d (.xd [(fld, v)]) := ⟨_, M.fs.at (fun o q => (gk d M.ne).trans q), fun f => relO_fld rv fld f⟩
  have J : Inv X pins σ (upd H1 d (.xd [(fld, v)])) ⟨G', g, dr, tk', os⟩ := I1.laid (t' := tk') (fun b o q => (gk b (Nat.ne_of_lt (Nat.lt_of_lt_of_le (Heap.lt_size q) M.fresh))).trans (M.old b o q)) M.freshd ob
  refine ⟨e, _, _, ⟨G', g, dr, tk', os⟩, _, .ref (adr X.mg x), some d, rfl, J, fun b o q => ?_, gn, hoe, ⟨rfl, rfl⟩, rfl, rfl, ?_, rfl, I1.bare, raises_own E.b E.t, q1 d (I1.hok.fresh M.freshd)⟩
  · by_cases hb : b = e
    · have q' : G'.get? b = some o := q
      rw [hb, gn] at q'
      cases q'
    · exact (gk b hb).symm.trans q
  · rw [upd_ne (Ne.symm M.ne)]
    exact I1.hok.fresh M.fresh
/-- raise x(e) -/
theorem ps_raiseF {a : Expr} {ta : TA} {W : WX} {p pos pos2 : Pos} {k : Nat} (F : ErrF X.K X.mg x fld bm nw) (E : ErrC X.K X.mg x) (FB : ExcBaseFacts B nw ini bm) (SF : StoreFacts B bm "object.__setattr__" "object") (hc : X.calm = true) (hr : Room (k + 1) X.A) (tk : Takes X W) (ha : PA X [a] ta) (hg : Gl X x := by rfl) (hdb : (x == ("__debug__" : Str)) = false := by decide)
    (he : starEach (a :: []) X.env = (false, eval a X.env) :: starEach [] X.env := by rfl) (hpl : (backTo pos (starEach [] X.env)).any (·.1) = false := by rfl) :
    PS X (.Raise (some (.Call (.Name x p) [a] [] pos)) none pos2) (fun _ σ H => tMkF (adr X.mg x) fld ta σ H fun cls d H' => W cls d σ H') := ps_raise hc tk (pmk_fld F E FB SF hr ha hg hdb he hpl)
/-- the field of a caught error -/
def tFldE (a C : Addr) (fld : Str) (cls : Value) (d : Option Addr) (te : TE) : TE := fun σ H Q => te σ H fun y H1 => y = .ref a ∧ cls = .ref C ∧ ∃ (dd : Addr) (v : V), d = some dd ∧ H1 dd = some (.xd [(fld, v)]) ∧ Q v H1
theorem pe_fldE {a : Addr} {oe : Obj} {cls : Value} {d : Option Addr} {pn : List (Addr × Obj)} {e : Expr} {te : TE} {pos : Pos} (F : ErrF X.K X.mg x fld bm nw) (E : ErrC X.K X.mg x) (hz : Zc cls d oe) (hf : ∃ vs, oe.data = .fields vs) (he : PE (X.suite a ((a, oe) :: pn)) e te)
    (hb : attributeBase e fld X.env (eval e X.env) = eval e X.env := by rfl) : PE (X.suite a ((a, oe) :: pn)) (.Attribute e fld pos) (tFldE a (adr X.mg x) fld cls d te) := by
  refine ⟨fun pins s σ H Q I h => ?_⟩
  refine attr_of hb (thn (he.run pins s σ H _ I h) fun u s1 hh => ?_)
  obtain ⟨y, H1, I1, ry, rfl, rfl, dd, v, rfl, ea, q⟩ := hh
  obtain rfl : u = Value.ref a := ry
  obtain ⟨ha, _⟩ := I1.pin (a, oe) (List.mem_append_left _ List.mem_cons_self)
  obtain ⟨vs, hd⟩ := hf
  obtain ⟨mA, hns, hr⟩ : ObjOk X.prog X.w H1 s1.heap dd (.xd [(fld, v)]) := I1.hok dd _ ea
  obtain ⟨od, ho, hl⟩ := lookIn_ns hns
  have l : List.lookup fld [(fld, v)] = some v := by simp [List.lookup]
  obtain ⟨u, hu, ru⟩ := RelO.some_of (v := v) (o := mA fld) (by rw [← l]; exact hr fld)
  have J : PySem.W.InstAt s1.heap a oe (adr X.mg x) (some od) := ⟨ha, hz.1, by unfold PySem.W.notCls; rw [hd] <;> rfl, by rw [hz.2]; exact ho⟩
  exact HandSPX.exc_get I1.kIn J E.c.hg E.c.hk E.b (PySem.W.findObj_own E.d F.no rfl (by rw [hl, hu])) (handed_of ru) ⟨v, H1, I1.tok _, ru, q⟩
end
section
variable {X : Cx} {a d D : Addr} {oe : Obj} {pn : List (Addr × Obj)}
theorem inst_fld {pins : List (Addr × Obj)} {σ : L2.St} {H : Hp} {s : Shared} {fs : List (Str × V)} (I : L2.Inv (X.suite a ((a, oe) :: pn)) pins σ H s) (hz : Zc (.ref D) (some d) oe) (hf : ∃ vs, oe.data = .fields vs) (hd : H d = some (.xd fs)) : ∃ od, PySem.W.InstAt s.heap a oe D (some od) := by
  obtain ⟨ha, _⟩ := I.pin (a, oe) (List.mem_append_left _ List.mem_cons_self)
  obtain ⟨vs, hv⟩ := hf
  obtain ⟨mA, hns, _⟩ : ObjOk X.prog X.w H s.heap d (.xd fs) := I.hok d _ hd
  obtain ⟨od, ho, _⟩ := lookIn_ns hns
  exact ⟨od, ha, hz.1, by unfold PySem.W.notCls; rw [hv] <;> rfl, by rw [hz.2]; exact ho⟩
theorem ExcC.kit {K : PySem.W.Frag} {x : Addr} {ox : Obj} {od : Option Obj} (C : ExcC K D) : PySem.W.KitX K (.ref x) (.ref D) (fun h => PySem.W.InstAt h x ox D od) :=
  PySem.W.kitx_exc (by obtain ⟨cd, hc, _⟩ := PySem.W.any_some C.hd; rw [hc]; rfl) C.hg C.hk C.hs C.ha C.hn C.ht C.hm
/-- isinstance(e, c), e a caught error with a field -/
def rIsF (K : PySem.W.Frag) (D a d : Addr) : List V → Hp → VK → Prop := fun xs H Q => ∃ (c : V) (cv : Value) (b : Bool) (fs : List (Str × V)), xs = [.ref a, c] ∧ (∀ u, RelV c u → u = cv) ∧ PySem.W.kitOne K (.ref D) cv = some b ∧ H d = some (.xd fs) ∧ Q (.bl b) H
theorem call_isF (C : ExcC X.K D) (hz : Zc (.ref D) (some d) oe) (hf : ∃ vs, oe.data = .fields vs) : CallR (X.suite a ((a, oe) :: pn)) (.builtin "isinstance") (rIsF X.K D a d) := by
  intro pins s σ H xs us Q I r h
  obtain ⟨c, cv, b, fs, rfl, hcv, e, hd, q⟩ := h
  obtain ⟨u1, u2, rfl, r1, r2⟩ := vals2 r
  cases (show u1 = Value.ref a from r1)
  cases hcv _ r2
  obtain ⟨od, J⟩ := inst_fld I hz hf hd
  exact PySem.W.kia_one (ExcC.kit C) I.kIn J e (fun z => nomatch z) fun tk => ⟨.bl b, H, I.kept (t' := tk) fun _ _ z => z, rfl, q⟩
end
/-- what the top's own lines tell of such a class -/
theorem errF_of {K : PySem.W.Frag} {h : Heap} {mg : Str → Option Value} {x fld : Str} {C fI : Addr} {bm : List Value} {nw : String} {st : Stmt} {oc kV doc pm cdv ct : Value} {od an : Option Addr} {osl : Array (Option Value)} {q : Str} {q1 q2 q3 q4 : Pos} (X : K.In h) (G : h.Ns mainGlobals mg)
    (a : PySem.W.nsIn K mainGlobals x = some (some (.ref C))) (i : PySem.W.findIn K (.ref C) "__init__" = some (some (.ref fI))) (t : PySem.W.typeIn K (.ref fI) = some (.type "function"))
    (lk : K.lookup fI = some ⟨oc, od, .func (PySem.W.fnOf "__init__" q (defArgs st) (defBody st) (defScope st) .none kV doc pm an cdv ct), osl⟩) (hc : PySem.W.codeIn K cdv q = true)
    (mk : PySem.W.excInitIn K C bm nw = true) (ov : PySem.W.excOver K C bm = true) (sa : PySem.W.findIn K (.ref C) "__setattr__" = some (some (.builtin "object.__setattr__"))) (no : PySem.W.findIn K (.ref C) fld = some none)
    (hB : defBody st = [.Assign [.Attribute (.Name "self" q1) fld q2] (.Name fld q3) q4]) (hS : defScope st = { kind := .function, names := [(PySem.Str.ofString "self", .local), (fld, .local)], isGenerator := false, isCoroutine := false })
    (hb : ∀ (B : List Stmt) (S : Scope) (s : Shared) (self v : Value), BindsTo s (PySem.W.fnOf "__init__" q (defArgs st) B S .none kV doc pm an cdv ct) ⟨[self, v], []⟩ [("self", self), (fld, v)]) (hn : (fld == ("self" : Str)) = false ∧ (fld == ("__debug__" : Str)) = false) : ErrF K mg x fld bm nw := by
  have e := adr_of (PySem.W.mg_of X G a)
  rw [hB, hS] at lk
  exact ⟨by rw [e]; exact mk, by rw [e]; exact ov, by rw [e]; exact sa, by rw [e]; exact no, fI, oc, od, q, _, _, kV, doc, pm, an, cdv, ct, osl, q1, q2, q3, q4, by rw [e]; exact i, t, lk, hc, fun s self v => hb _ _ s self v, rfl, hn⟩
end OC
set_option Elab.async false
set_option linter.all false
set_option maxRecDepth 100000
set_option maxHeartbeats 2000000
/-! methods, and defs kept in a local name, that may raise; a promise in two parts -/
namespace OC
open PySem PySem.Spec PyProof.Rows L2
/-- as OkM, for a method that may raise -/
structure OkMX (P : Program) (w : World) (K : PySem.W.Frag) (mg : Str → Option Value) (base : Heap) (k : Nat) (c m : Str) (ps : List Str) (dvs : List V) (sp : Sp) : Prop where
  ex : ∃ (f : Addr) (fd : FuncData) (ds : List Value), FnOk P w K mg base (L2.CX P w) k f fd ps sp ∧ Meth K (adr mg c) m f ∧ Vals dvs ds ∧ Binds K fd ps ds
/-- as HeldR -/
structure HeldX (P : Program) (w : World) (K : PySem.W.Frag) (mg : Str → Option Value) (base : Heap) (k : Nat) (f : Addr) (sp : Sp) : Prop where
  ex : FnR P w K mg base (L2.CX P w) k f sp
  kp : PySem.W.keepIn K (.ref f) = true
section
variable {P : Program} {w : World} {K : PySem.W.Frag} {mg : Str → Option Value} {base : Heap}
theorem DfM.okX {c m q : Str} {st : Stmt} {N ps : List Str} {dvs : List V} {k : Nat} {sp : Sp} (D : DfM K mg c m q st ps dvs) (S : FnScope N ps (defScope st)) (len : ∀ vs H Q E, sp vs H Q E → vs.length = ps.length)
    (hbody : ∀ (f : Addr) (cdv : Value) (A : Around) (outer : List Env) (s : Shared) (H : Hp) (vs : List V) (Q : VK) (E : XK), Room k (A.deeper (envOfC q (defScope st) s.heap.objs.size f cdv)) → sp vs H Q E →
      ∃ t, PSs (cxOf (L2.CX P w) P w K mg base N q (defScope st) f cdv A outer s H E) (defBody st) t ∧ t { nx := fun _ H' => Q .non H', rt := Q } (start N vs) H) : OkMX P w K mg base (k + 1) c m ps dvs sp := by
  obtain ⟨f, fd, ds, F, v, b, g⟩ := D.ex
  exact ⟨f, fd, ds, F.okX S len (hbody f), g, v, b⟩
theorem OkMX.mono {c m : Str} {ps : List Str} {dvs : List V} {j k : Nat} {sp : Sp} (O : OkMX P w K mg base j c m ps dvs sp) (h : j ≤ k) : OkMX P w K mg base k c m ps dvs sp := by
  obtain ⟨f, fd, ds, F, r⟩ := O.ex
  exact ⟨f, fd, ds, F.mono h, r⟩
theorem OkX.held {k : Nat} {x : Str} {ps : List Str} {sp : Sp} (O : OkX P w K mg base k x ps sp) : ∃ f, mg x = some (.ref f) ∧ HeldX P w K mg base k f sp := by
  obtain ⟨f, fd, F, g, kp, b⟩ := O.ex
  refine ⟨f, g, ?_, kp⟩
  exact (F.raw b .nil).imp fun vs H Q E h => by rw [List.append_nil]; exact h
end
/-- o.m(e, ..): W is what is wished of an error -/
def tMethX (C : Addr) (m : Str) (sp : Sp) (dvs : List V) (E : L2.St → XK) (ta : TE) (t : TA) : TE := fun σ H Q => ta σ H fun x H1 => ∃ a dx fs, x = .ref a ∧ H1 a = some (.ins C dx fs) ∧ fs.lookup m = none ∧ t σ H1 fun vs H2 => sp (x :: (vs ++ dvs)) H2 Q (E σ)
def tCallLX (P : Program) (w : World) (K : PySem.W.Frag) (mg : Str → Option Value) (base : Heap) (i k : Nat) (E : L2.St → XK) (t : TA) : TE := fun σ H Q => ∃ (f : Addr) (sp : Sp), σ[i]? = some (some (.ref f)) ∧ HeldX P w K mg base k f sp ∧ t σ H fun vs H1 => sp vs H1 Q (E σ)
section
variable {X : Cx} {c m : Str} {ps : List Str} {dvs : List V} {k i : Nat} {sp : Sp} {W : WX}
theorem pe_methXO {pl : Sem Bool} {o e : Expr} {es : List Expr} {ta : TE} {t : TA} {apos pos : Pos} (O : OkMX X.prog X.w X.K X.mg X.base k c m ps dvs sp) (C : ClsN X.K X.mg c) (tk : Takes X W) (hr : Room k X.A) (he : PE X o ta) (ha : PA X (e :: es) t)
    (hst : starEach (e :: es) X.env = (false, eval e X.env) :: starEach es X.env := by rfl) (hpl : (backTo pos (starEach es X.env)).any (·.1) = false := by rfl)
    (ht : eval (.Call (.Attribute o m apos) (e :: es) [] pos) X.env = (do
      let ov ← eval o X.env
      standAt apos.atName
      let (f, first) ← holding [ov] (getMethod ov m pl)
      callWith pos f first (backTo pos (starEach (e :: es) X.env)) (backToKw pos (keywordEach [] X.env))) := by rfl) :
    PE X (.Call (.Attribute o m apos) (e :: es) [] pos) (tMethX (adr X.mg c) m sp dvs (WE W) ta t) := by
  obtain ⟨f, fd, ds, F, g, v, b⟩ := O.ex
  refine ⟨fun pins s σ H Q I h => PySem.W.methodCall_KW (pl := pl) (thn (he.run pins s σ H _ I h) fun u s1 hu => ?_) ht⟩
  obtain ⟨x, H1, I1, rx, a, dx, fs, rfl, ea, l, q⟩ := hu
  obtain rfl : u = Value.ref a := rx
  refine getmeth_ok I1 ea C.cl g l (PySem.W.callWith_K (first := [.ref a]) (h₀ := X.base) I.ok.mod.kin g.kp (thn (ha.run pos pins s1 σ H1 _ I1 q) fun us s2 hv => ?_) hst hpl)
  obtain ⟨vs, H2, I2, r, q2⟩ := hv
  exact ⟨I2.kIn, run_fnSD (us := .ref a :: us) (vs := .ref a :: vs) F hr b v (passAt tk σ) I2 (.cons rfl r) q2⟩
/-- x(e, .., *y), x a local name that holds a def that may raise -/
theorem pe_callLX {x : Str} {e : Expr} {es : List Expr} {t : TA} {p pos : Pos} (tk : Takes X W) (hr : Room k X.A) (hN : X.N[i]? = some x) (hv : Vis X.env.scope x) (ha : PA X (e :: es) t)
    (hdb : (x == ("__debug__" : Str)) = false := by decide) (hcd : (x == ("__classdict__" : Str)) = false := by decide)
    (he : starEach (e :: es) X.env = (false, eval e X.env) :: starEach es X.env := by rfl) (hst : (backTo pos (starEach es X.env)).any (·.1) = true := by rfl) :
    PE X (.Call (.Name x p) (e :: es) [] pos) (tCallLX X.prog X.w X.K X.mg X.base i k (WE W) t) := by
  refine ⟨fun pins s σ H Q I h => ?_⟩
  obtain ⟨f, sp, hs, ⟨F, hk⟩, ht⟩ := h
  refine wpAny_Call_Name_kw (thn ((pe_var (pos := p) hN hv hdb hcd).run pins s σ H (fun v H1 => v = .ref f ∧ H1 = H) I ⟨.ref f, hs, rfl, rfl⟩) fun u s1 ⟨v, H1, I1, r1, q1⟩ => ?_)
  obtain ⟨rfl, rfl⟩ := q1
  cases r1
  refine PySem.W.callWith_S2 (h₀ := X.base) I.ok.mod.kin hk (thn (ha.run pos pins s1 σ _ _ I1 ht) fun us s2 ⟨vs, H2, I2, r, q⟩ => ⟨I2.kIn, ?_⟩) he hst
  refine wpAny_call (codeAny_mono (F X.A X.stack s2 H2 us vs Q (WE W σ) hr I2.env0 r q) fun z s' hq => ?_)
  cases z with
  | error e => exact passAt tk σ pins H2 s2 e s' I2 hq
  | ok fl =>
    cases fl with
    | ret u => exact I2.after hq
    | next => exact False.elim hq
    | brk => exact False.elim hq
    | cont => exact False.elim hq
end
end OC
set_option Elab.async false
set_option linter.all false
set_option maxRecDepth 100000
set_option maxHeartbeats 4000000
namespace OC
open PySem PySem.Spec PyProof.Rows L2
def topS (i : Nat) : Stmt := PySem.Challenge.pw_opencalls_k16_calls_heard.main.body.getD i (.Pass ⟨0, 0, 0, 0⟩)
abbrev s_NotKnown___init__ : Stmt := inClass (topS 4) 0
abbrev s_is_name : Stmt := topS 19
abbrev N_is_name : List Str := ["thing", "sign"]
theorem sc_is_name : FnScope N_is_name ["thing"] (defScope s_is_name) := ⟨rfl, rfl, rfl, by decide +kernel, rfl, by decide +kernel, by decide +kernel⟩
abbrev s_is_rising : Stmt := topS 20
abbrev N_is_rising : List Str := ["things", "one", "other"]
theorem sc_is_rising : FnScope N_is_rising ["things"] (defScope s_is_rising) := ⟨rfl, rfl, rfl, by decide +kernel, rfl, by decide +kernel, by decide +kernel⟩
abbrev s_are_names : Stmt := topS 21
abbrev N_are_names : List Str := ["thing", "part"]
theorem sc_are_names : FnScope N_are_names ["thing"] (defScope s_are_names) := ⟨rfl, rfl, rfl, by decide +kernel, rfl, by decide +kernel, by decide +kernel⟩
abbrev s_is_number : Stmt := topS 23
abbrev N_is_number : List Str := ["thing"]
theorem sc_is_number : FnScope N_is_number ["thing"] (defScope s_is_number) := ⟨rfl, rfl, rfl, by decide +kernel, rfl, by decide +kernel, by decide +kernel⟩
abbrev s_is_rest : Stmt := topS 24
abbrev N_is_rest : List Str := ["p", "thing"]
theorem sc_is_rest : FnScope N_is_rest ["p", "thing"] (defScope s_is_rest) := ⟨rfl, rfl, rfl, by decide +kernel, rfl, by decide +kernel, by decide +kernel⟩
abbrev s_contrary : Stmt := topS 25
abbrev N_contrary : List Str := ["p", "a", "b"]
theorem sc_contrary : FnScope N_contrary ["p", "a"] (defScope s_contrary) := ⟨rfl, rfl, rfl, by decide +kernel, rfl, by decide +kernel, by decide +kernel⟩
abbrev s_is_row : Stmt := topS 27
abbrev N_is_row : List Str := ["p", "n", "thing", "part"]
theorem sc_is_row : FnScope N_is_row ["p", "n", "thing"] (defScope s_is_row) := ⟨rfl, rfl, rfl, by decide +kernel, rfl, by decide +kernel, by decide +kernel⟩
abbrev s_added : Stmt := topS 28
abbrev N_added : List Str := ["p", "one", "other", "a", "b"]
theorem sc_added : FnScope N_added ["p", "one", "other"] (defScope s_added) := ⟨rfl, rfl, rfl, by decide +kernel, rfl, by decide +kernel, by decide +kernel⟩
abbrev s_times : Stmt := topS 29
abbrev N_times : List Str := ["p", "a", "row", "rest"]
theorem sc_times : FnScope N_times ["p", "a", "row"] (defScope s_times) := ⟨rfl, rfl, rfl, by decide +kernel, rfl, by decide +kernel, by decide +kernel⟩
abbrev s_check_hand : Stmt := topS 31
abbrev N_check_hand : List Str := ["there", "hand"]
theorem sc_check_hand : FnScope N_check_hand ["there", "hand"] (defScope s_check_hand) := ⟨rfl, rfl, rfl, by decide +kernel, rfl, by decide +kernel, by decide +kernel⟩
abbrev s_check_hands : Stmt := topS 32
abbrev N_check_hands : List Str := ["there", "hands", "least", "hand"]
theorem sc_check_hands : FnScope N_check_hands ["there", "hands", "least"] (defScope s_check_hands) := ⟨rfl, rfl, rfl, by decide +kernel, rfl, by decide +kernel, by decide +kernel⟩
abbrev s_check_row : Stmt := topS 33
abbrev N_check_row : List Str := ["p", "n", "row"]
theorem sc_check_row : FnScope N_check_row ["p", "n", "row"] (defScope s_check_row) := ⟨rfl, rfl, rfl, by decide +kernel, rfl, by decide +kernel, by decide +kernel⟩
abbrev s_led : Stmt := topS 35
abbrev s_is_noughts : Stmt := topS 37
abbrev N_is_noughts : List Str := ["row", "rest"]
theorem sc_is_noughts : FnScope N_is_noughts ["row"] (defScope s_is_noughts) := ⟨rfl, rfl, rfl, by decide +kernel, rfl, by decide +kernel, by decide +kernel⟩
abbrev s_first_place : Stmt := topS 38
abbrev N_first_place : List Str := ["row", "at", "rest"]
theorem sc_first_place : FnScope N_first_place ["row"] (defScope s_first_place) := ⟨rfl, rfl, rfl, by decide +kernel, rfl, by decide +kernel, by decide +kernel⟩
abbrev s_cleared : Stmt := topS 39
abbrev N_cleared : List Str := ["p", "plain", "row", "factor"]
theorem sc_cleared : FnScope N_cleared ["p", "plain", "row"] (defScope s_cleared) := ⟨rfl, rfl, rfl, by decide +kernel, rfl, by decide +kernel, by decide +kernel⟩
abbrev s_left_of : Stmt := topS 40
abbrev N_left_of : List Str := ["p", "room", "row", "plain"]
theorem sc_left_of : FnScope N_left_of ["p", "room", "row"] (defScope s_left_of) := ⟨rfl, rfl, rfl, by decide +kernel, rfl, by decide +kernel, by decide +kernel⟩
abbrev s_widened : Stmt := topS 41
abbrev N_widened : List Str := ["p", "room", "row", "rest", "at", "fresh", "plain"]
theorem sc_widened : FnScope N_widened ["p", "room", "row"] (defScope s_widened) := ⟨rfl, rfl, rfl, by decide +kernel, rfl, by decide +kernel, by decide +kernel⟩
abbrev s_room_of : Stmt := topS 42
abbrev N_room_of : List Str := ["p", "n", "rows", "room", "row"]
theorem sc_room_of : FnScope N_room_of ["p", "n", "rows"] (defScope s_room_of) := ⟨rfl, rfl, rfl, by decide +kernel, rfl, by decide +kernel, by decide +kernel⟩
abbrev s_within : Stmt := topS 43
abbrev N_within : List Str := ["p", "room", "row"]
theorem sc_within : FnScope N_within ["p", "room", "row"] (defScope s_within) := ⟨rfl, rfl, rfl, by decide +kernel, rfl, by decide +kernel, by decide +kernel⟩
abbrev s_needed : Stmt := topS 45
abbrev s_names_at : Stmt := topS 48
abbrev N_names_at : List Str := ["moment", "name", "rows"]
theorem sc_names_at : FnScope N_names_at ["moment"] (defScope s_names_at) := ⟨rfl, rfl, rfl, by decide +kernel, rfl, by decide +kernel, by decide +kernel⟩
abbrev s_heard_at : Stmt := topS 49
abbrev N_heard_at : List Str := ["moment", "names", "heard", "name", "rows"]
theorem sc_heard_at : FnScope N_heard_at ["moment", "names"] (defScope s_heard_at) := ⟨rfl, rfl, rfl, by decide +kernel, rfl, by decide +kernel, by decide +kernel⟩
abbrev s_known_at : Stmt := topS 50
abbrev N_known_at : List Str := ["moment", "names"]
theorem sc_known_at : FnScope N_known_at ["moment", "names"] (defScope s_known_at) := ⟨rfl, rfl, rfl, by decide +kernel, rfl, by decide +kernel, by decide +kernel⟩
abbrev s_are_first_rows : Stmt := topS 53
abbrev s_after_call : Stmt := topS 54
abbrev N_after_call : List Str := ["moment", "hand", "row", "name", "rows", "hands"]
theorem sc_after_call : FnScope N_after_call ["moment", "hand", "row"] (defScope s_after_call) := ⟨rfl, rfl, rfl, by decide +kernel, rfl, by decide +kernel, by decide +kernel⟩
abbrev s_after_whisper : Stmt := topS 55
abbrev N_after_whisper : List Str := ["moment", "hands", "row", "name", "rows", "told"]
theorem sc_after_whisper : FnScope N_after_whisper ["moment", "hands", "row"] (defScope s_after_whisper) := ⟨rfl, rfl, rfl, by decide +kernel, rfl, by decide +kernel, by decide +kernel⟩
abbrev s_after_meet : Stmt := topS 56
abbrev s_news : Stmt := topS 57
abbrev s_after_hide : Stmt := topS 58
abbrev s_longer : Stmt := topS 59
abbrev s_after_change : Stmt := topS 60
abbrev s_all_led : Stmt := topS 61
abbrev s_after_come : Stmt := topS 62
abbrev s_after_go : Stmt := topS 63
abbrev s_after : Stmt := topS 65
abbrev N_after : List Str := ["moment", "deed", "step", "things"]
theorem sc_after : FnScope N_after ["moment", "deed"] (defScope s_after) := ⟨rfl, rfl, rfl, by decide +kernel, rfl, by decide +kernel, by decide +kernel⟩
abbrev s__law_deck : Stmt := topS 70
abbrev N__law_deck : List Str := ["_law_script", "_law_cell"]
theorem sc__law_deck : FnScope N__law_deck ["_law_script"] (defScope s__law_deck) := ⟨rfl, rfl, rfl, by decide +kernel, rfl, by decide +kernel, by decide +kernel⟩
abbrev s__law_draw : Stmt := topS 71
abbrev N__law_draw : List Str := ["_law_deck_here", "_law_many", "_law_cell", "_law_place"]
theorem sc__law_draw : FnScope N__law_draw ["_law_deck_here", "_law_many"] (defScope s__law_draw) := ⟨rfl, rfl, rfl, by decide +kernel, rfl, by decide +kernel, by decide +kernel⟩
abbrev s__law_names : Stmt := topS 72
abbrev N__law_names : List Str := ["_law_deck_here", "_law_many", "_law_letters", "_law_long", "_law_k", "_law_stem", "_law_cut", "_law_first", "_law_step"]
theorem sc__law_names : FnScope N__law_names ["_law_deck_here", "_law_many"] (defScope s__law_names) := ⟨rfl, rfl, rfl, by decide +kernel, rfl, by decide +kernel, by decide +kernel⟩
abbrev s__law_row : Stmt := topS 73
abbrev N__law_row : List Str := ["_law_deck_here", "_law_p", "_law_n", "_law_way", "_law_spot", "_law_k"]
theorem sc__law_row : FnScope N__law_row ["_law_deck_here", "_law_p", "_law_n"] (defScope s__law_row) := ⟨rfl, rfl, rfl, by decide +kernel, rfl, by decide +kernel, by decide +kernel⟩
abbrev s__law_left : Stmt := topS 74
abbrev N__law_left : List Str := ["_law_p", "_law_room", "_law_row_here", "_law_found", "_law_one", "_law_k", "_law_first", "_law_share"]
theorem sc__law_left : FnScope N__law_left ["_law_p", "_law_room", "_law_row_here"] (defScope s__law_left) := ⟨rfl, rfl, rfl, by decide +kernel, rfl, by decide +kernel, by decide +kernel⟩
abbrev s__law_plain : Stmt := topS 75
abbrev N__law_plain : List Str := ["_law_p", "_law_rows", "_law_found", "_law_row_here", "_law_k", "_law_spots", "_law_turn", "_law_rest", "_law_own", "_law_one"]
theorem sc__law_plain : FnScope N__law_plain ["_law_p", "_law_rows"] (defScope s__law_plain) := ⟨rfl, rfl, rfl, by decide +kernel, rfl, by decide +kernel, by decide +kernel⟩
abbrev s__law_within : Stmt := topS 76
abbrev N__law_within : List Str := ["_law_p", "_law_room", "_law_row_here"]
theorem sc__law_within : FnScope N__law_within ["_law_p", "_law_room", "_law_row_here"] (defScope s__law_within) := ⟨rfl, rfl, rfl, by decide +kernel, rfl, by decide +kernel, by decide +kernel⟩
abbrev s__law_made_of : Stmt := topS 77
abbrev N__law_made_of : List Str := ["_law_p", "_law_n", "_law_rows", "_law_factors", "_law_found", "_law_row_here", "_law_factor", "_law_k"]
theorem sc__law_made_of : FnScope N__law_made_of ["_law_p", "_law_n", "_law_rows", "_law_factors"] (defScope s__law_made_of) := ⟨rfl, rfl, rfl, by decide +kernel, rfl, by decide +kernel, by decide +kernel⟩
abbrev s__law_begun : Stmt := topS 78
abbrev N__law_begun : List Str := ["_law_deck_here", "_law_high", "_law_p", "_law_n", "_law_hands", "_law_name", "_law_k"]
theorem sc__law_begun : FnScope N__law_begun ["_law_deck_here", "_law_high"] (defScope s__law_begun) := ⟨rfl, rfl, rfl, by decide +kernel, rfl, by decide +kernel, by decide +kernel⟩
abbrev s__law_model : Stmt := topS 79
abbrev N__law_model : List Str := ["_law_made"]
theorem sc__law_model : FnScope N__law_model ["_law_made"] (defScope s__law_model) := ⟨rfl, rfl, rfl, by decide +kernel, rfl, by decide +kernel, by decide +kernel⟩
abbrev s__law_rows_by : Stmt := topS 80
abbrev N__law_rows_by : List Str := ["_law_model_here", "_law_hands", "_law_found", "_law_name"]
theorem sc__law_rows_by : FnScope N__law_rows_by ["_law_model_here", "_law_hands"] (defScope s__law_rows_by) := ⟨rfl, rfl, rfl, by decide +kernel, rfl, by decide +kernel, by decide +kernel⟩
abbrev s__law_room_by : Stmt := topS 81
abbrev N__law_room_by : List Str := ["_law_model_here", "_law_hands"]
theorem sc__law_room_by : FnScope N__law_room_by ["_law_model_here", "_law_hands"] (defScope s__law_room_by) := ⟨rfl, rfl, rfl, by decide +kernel, rfl, by decide +kernel, by decide +kernel⟩
abbrev s__law_called : Stmt := topS 82
abbrev N__law_called : List Str := ["_law_book", "_law_hand", "_law_row_here", "e", "_law_right"]
theorem sc__law_called : FnScope N__law_called ["_law_book", "_law_hand", "_law_row_here"] (defScope s__law_called) := ⟨rfl, rfl, rfl, by decide +kernel, rfl, by decide +kernel, by decide +kernel⟩
abbrev s__law_all_right : Stmt := topS 83
abbrev N__law_all_right : List Str := ["_law_book", "_law_model_here", "_law_names_here", "_law_name", "_law_hands"]
theorem sc__law_all_right : FnScope N__law_all_right ["_law_book", "_law_model_here"] (defScope s__law_all_right) := ⟨rfl, rfl, rfl, by decide +kernel, rfl, by decide +kernel, by decide +kernel⟩
abbrev s_law : Stmt := topS 84
abbrev N_law : List Str := ["_law_script", "_law_deck_here", "_law_made", "_law_p", "_law_n", "_law_hands", "_law_book", "_law_model_here", "_law_turn", "_law_name", "_law_first", "_law_rows", "_law_one", "_law_row_here", "_law_due"]
theorem sc_law : FnScope N_law ["_law_script"] (defScope s_law) := ⟨rfl, rfl, rfl, by decide +kernel, rfl, by decide +kernel, by decide +kernel⟩
abbrev s_Moment___init__ : Stmt := inClass (topS 47) 0
abbrev N_Moment___init__ : List Str := ["self", "p", "n", "called", "hands"]
theorem sc_Moment___init__ : FnScope N_Moment___init__ ["self", "p", "n", "called", "hands"] (defScope s_Moment___init__) := ⟨rfl, rfl, rfl, by decide +kernel, rfl, by decide +kernel, by decide +kernel⟩
abbrev s_Book___init__ : Stmt := inClass (topS 68) 0
abbrev N_Book___init__ : List Str := ["self", "p", "n", "hands"]
theorem sc_Book___init__ : FnScope N_Book___init__ ["self", "p", "n", "hands"] (defScope s_Book___init__) := ⟨rfl, rfl, rfl, by decide +kernel, rfl, by decide +kernel, by decide +kernel⟩
abbrev s_Book_now : Stmt := inClass (topS 68) 4
abbrev N_Book_now : List Str := ["self"]
theorem sc_Book_now : FnScope N_Book_now ["self"] (defScope s_Book_now) := ⟨rfl, rfl, rfl, by decide +kernel, rfl, by decide +kernel, by decide +kernel⟩
abbrev s_Book_refuse_amid : Stmt := inClass (topS 68) 5
abbrev N_Book_refuse_amid : List Str := ["self"]
theorem sc_Book_refuse_amid : FnScope N_Book_refuse_amid ["self"] (defScope s_Book_refuse_amid) := ⟨rfl, rfl, rfl, by decide +kernel, rfl, by decide +kernel, by decide +kernel⟩
abbrev s_Book_perform : Stmt := inClass (topS 68) 6
abbrev N_Book_perform : List Str := ["self", "deed", "moment"]
theorem sc_Book_perform : FnScope N_Book_perform ["self", "deed"] (defScope s_Book_perform) := ⟨rfl, rfl, rfl, by decide +kernel, rfl, by decide +kernel, by decide +kernel⟩
abbrev s_Book_call : Stmt := inClass (topS 68) 7
abbrev N_Book_call : List Str := ["self", "hand", "row"]
theorem sc_Book_call : FnScope N_Book_call ["self", "hand", "row"] (defScope s_Book_call) := ⟨rfl, rfl, rfl, by decide +kernel, rfl, by decide +kernel, by decide +kernel⟩
abbrev s_Book_moment_at : Stmt := inClass (topS 68) 18
abbrev N_Book_moment_at : List Str := ["self", "at"]
theorem sc_Book_moment_at : FnScope N_Book_moment_at ["self", "at"] (defScope s_Book_moment_at) := ⟨rfl, rfl, rfl, by decide +kernel, rfl, by decide +kernel, by decide +kernel⟩
abbrev s_Book_moment_of : Stmt := inClass (topS 68) 19
abbrev N_Book_moment_of : List Str := ["self", "hands", "least", "at", "moment"]
theorem sc_Book_moment_of : FnScope N_Book_moment_of ["self", "hands", "least", "at"] (defScope s_Book_moment_of) := ⟨rfl, rfl, rfl, by decide +kernel, rfl, by decide +kernel, by decide +kernel⟩
abbrev s_Book_names : Stmt := inClass (topS 68) 20
abbrev N_Book_names : List Str := ["self", "at"]
theorem sc_Book_names : FnScope N_Book_names ["self", "at"] (defScope s_Book_names) := ⟨rfl, rfl, rfl, by decide +kernel, rfl, by decide +kernel, by decide +kernel⟩
abbrev s_Book_heard : Stmt := inClass (topS 68) 21
abbrev N_Book_heard : List Str := ["self", "hands", "at"]
theorem sc_Book_heard : FnScope N_Book_heard ["self", "hands", "at"] (defScope s_Book_heard) := ⟨rfl, rfl, rfl, by decide +kernel, rfl, by decide +kernel, by decide +kernel⟩
abbrev s_Book_known : Stmt := inClass (topS 68) 22
abbrev N_Book_known : List Str := ["self", "hands", "at"]
theorem sc_Book_known : FnScope N_Book_known ["self", "hands", "at"] (defScope s_Book_known) := ⟨rfl, rfl, rfl, by decide +kernel, rfl, by decide +kernel, by decide +kernel⟩
structure Top (K : PySem.W.Frag) (mg : Str → Option Value) : Prop where
  b_abs : mg "abs" = none
  b_all : mg "all" = none
  b_bool : mg "bool" = none
  b_dict : mg "dict" = none
  b_enumerate : mg "enumerate" = none
  b_int : mg "int" = none
  b_isinstance : mg "isinstance" = none
  b_len : mg "len" = none
  b_list : mg "list" = none
  b_max : mg "max" = none
  b_range : mg "range" = none
  b_sorted : mg "sorted" = none
  b_str : mg "str" = none
  b_tuple : mg "tuple" = none
  b_zip : mg "zip" = none
  b_ValueError : mg "ValueError" = none
  e_CallError : ErrC K mg "CallError"
  n_CallError : PySem.W.excIn K (adr mg "CallError") [.type "ValueError", .type "Exception", .type "BaseException", .type "object"] "ValueError.__new__" = true
  e_NoRow : ErrC K mg "NoRow"
  n_NoRow : PySem.W.excIn K (adr mg "NoRow") [.type "ValueError", .type "Exception", .type "BaseException", .type "object"] "ValueError.__new__" = true
  e_NotKnown : ErrC K mg "NotKnown"
  f_NotKnown : ErrF K mg "NotKnown" "name" [.type "ValueError", .type "Exception", .type "BaseException", .type "object"] "ValueError.__new__"
  s_CallError_CallError : PySem.W.subIn K (.ref (adr mg "CallError")) (.ref (adr mg "CallError")) = some true
  s_NoRow_NoRow : PySem.W.subIn K (.ref (adr mg "NoRow")) (.ref (adr mg "NoRow")) = some true
  s_NotKnown_CallError : PySem.W.subIn K (.ref (adr mg "NotKnown")) (.ref (adr mg "CallError")) = some true
  s_NotKnown_NoRow : PySem.W.subIn K (.ref (adr mg "NotKnown")) (.ref (adr mg "NoRow")) = some false
  s_NotKnown_NotKnown : PySem.W.subIn K (.ref (adr mg "NotKnown")) (.ref (adr mg "NotKnown")) = some true
  s_NotKnown_ValueError : PySem.W.subIn K (.ref (adr mg "NotKnown")) (.type "ValueError") = some true
  c_LETTERS : ∃ t, mg "LETTERS" = some (.str "abcdefghijklmnopqrstuvwxyz" t)
  c_DEEDS : ∃ t, mg "DEEDS" = some (.int 60 t)
  k_Moment : ClsN K mg "Moment"
  na_Moment_p : NoAttr K (adr mg "Moment") "p"
  na_Moment_n : NoAttr K (adr mg "Moment") "n"
  na_Moment_called : NoAttr K (adr mg "Moment") "called"
  na_Moment_hands : NoAttr K (adr mg "Moment") "hands"
  k_Book : ClsN K mg "Book"
  na_Book_made : NoAttr K (adr mg "Book") "made"
  na_Book_moments : NoAttr K (adr mg "Book") "moments"
  na_Book_done : NoAttr K (adr mg "Book") "done"
  na_Book_trials : NoAttr K (adr mg "Book") "trials"
  na_Book_amid : NoAttr K (adr mg "Book") "amid"
  d_Moment___init__ : DfM K mg "Moment" "__init__" "Moment.__init__" s_Moment___init__ ["self", "p", "n", "called", "hands"] []
  d_Book___init__ : DfM K mg "Book" "__init__" "Book.__init__" s_Book___init__ ["self", "p", "n", "hands"] []
  d_Book_now : DfM K mg "Book" "now" "Book.now" s_Book_now ["self"] []
  d_Book_refuse_amid : DfM K mg "Book" "refuse_amid" "Book.refuse_amid" s_Book_refuse_amid ["self"] []
  d_Book_perform : DfM K mg "Book" "perform" "Book.perform" s_Book_perform ["self", "deed"] []
  d_Book_call : DfM K mg "Book" "call" "Book.call" s_Book_call ["self", "hand", "row"] []
  d_Book_moment_at : DfM K mg "Book" "moment_at" "Book.moment_at" s_Book_moment_at ["self", "at"] []
  d_Book_moment_of : DfM K mg "Book" "moment_of" "Book.moment_of" s_Book_moment_of ["self", "hands", "least", "at"] []
  d_Book_names : DfM K mg "Book" "names" "Book.names" s_Book_names ["self", "at"] [.non]
  d_Book_heard : DfM K mg "Book" "heard" "Book.heard" s_Book_heard ["self", "hands", "at"] [.non]
  d_Book_known : DfM K mg "Book" "known" "Book.known" s_Book_known ["self", "hands", "at"] [.non]
  d_is_name : Df K mg "is_name" s_is_name ["thing"]
  d_is_rising : Df K mg "is_rising" s_is_rising ["things"]
  d_are_names : Df K mg "are_names" s_are_names ["thing"]
  d_is_number : Df K mg "is_number" s_is_number ["thing"]
  d_is_rest : Df K mg "is_rest" s_is_rest ["p", "thing"]
  d_contrary : Df K mg "contrary" s_contrary ["p", "a"]
  d_is_row : Df K mg "is_row" s_is_row ["p", "n", "thing"]
  d_added : Df K mg "added" s_added ["p", "one", "other"]
  d_times : Df K mg "times" s_times ["p", "a", "row"]
  d_check_hand : Df K mg "check_hand" s_check_hand ["there", "hand"]
  d_check_hands : Df K mg "check_hands" s_check_hands ["there", "hands", "least"]
  d_check_row : Df K mg "check_row" s_check_row ["p", "n", "row"]
  d_led : Df K mg "led" s_led ["p", "place", "row", "one"]
  d_is_noughts : Df K mg "is_noughts" s_is_noughts ["row"]
  d_first_place : Df K mg "first_place" s_first_place ["row"]
  d_cleared : Df K mg "cleared" s_cleared ["p", "plain", "row"]
  d_left_of : Df K mg "left_of" s_left_of ["p", "room", "row"]
  d_widened : Df K mg "widened" s_widened ["p", "room", "row"]
  d_room_of : Df K mg "room_of" s_room_of ["p", "n", "rows"]
  d_within : Df K mg "within" s_within ["p", "room", "row"]
  d_needed : Df K mg "needed" s_needed ["p", "n", "rows"]
  d_names_at : Df K mg "names_at" s_names_at ["moment"]
  d_heard_at : Df K mg "heard_at" s_heard_at ["moment", "names"]
  d_known_at : Df K mg "known_at" s_known_at ["moment", "names"]
  d_are_first_rows : Df K mg "are_first_rows" s_are_first_rows ["moment", "thing"]
  d_after_call : Df K mg "after_call" s_after_call ["moment", "hand", "row"]
  d_after_whisper : Df K mg "after_whisper" s_after_whisper ["moment", "hands", "row"]
  d_after_meet : Df K mg "after_meet" s_after_meet ["moment", "hands"]
  d_news : Df K mg "news" s_news ["moment", "rows", "room"]
  d_after_hide : Df K mg "after_hide" s_after_hide ["moment"]
  d_longer : Df K mg "longer" s_longer ["rows"]
  d_after_change : Df K mg "after_change" s_after_change ["moment", "place", "row"]
  d_all_led : Df K mg "all_led" s_all_led ["p", "place", "row", "rows"]
  d_after_come : Df K mg "after_come" s_after_come ["moment", "hand", "rows"]
  d_after_go : Df K mg "after_go" s_after_go ["moment", "hand"]
  d_after : Df K mg "after" s_after ["moment", "deed"]
  d__law_deck : Df K mg "_law_deck" s__law_deck ["_law_script"]
  d__law_draw : Df K mg "_law_draw" s__law_draw ["_law_deck_here", "_law_many"]
  d__law_names : Df K mg "_law_names" s__law_names ["_law_deck_here", "_law_many"]
  d__law_row : Df K mg "_law_row" s__law_row ["_law_deck_here", "_law_p", "_law_n"]
  d__law_left : Df K mg "_law_left" s__law_left ["_law_p", "_law_room", "_law_row_here"]
  d__law_plain : Df K mg "_law_plain" s__law_plain ["_law_p", "_law_rows"]
  d__law_within : Df K mg "_law_within" s__law_within ["_law_p", "_law_room", "_law_row_here"]
  d__law_made_of : Df K mg "_law_made_of" s__law_made_of ["_law_p", "_law_n", "_law_rows", "_law_factors"]
  d__law_begun : Df K mg "_law_begun" s__law_begun ["_law_deck_here", "_law_high"]
  d__law_model : Df K mg "_law_model" s__law_model ["_law_made"]
  d__law_rows_by : Df K mg "_law_rows_by" s__law_rows_by ["_law_model_here", "_law_hands"]
  d__law_room_by : Df K mg "_law_room_by" s__law_room_by ["_law_model_here", "_law_hands"]
  d__law_called : Df K mg "_law_called" s__law_called ["_law_book", "_law_hand", "_law_row_here"]
  d__law_all_right : Df K mg "_law_all_right" s__law_all_right ["_law_book", "_law_model_here"]
section
variable {P : Program} {w : World} {K : PySem.W.Frag} {mg : Str → Option Value} {base : Heap}
def sp_whole (K : PySem.W.Frag) : Sp := fun vs H Q _ => ∃ (v : V) (k : Kd), vs = [v] ∧ KdOf K H v k ∧ Q (.bl (decide (k = .int))) H
def sp_contr : Sp := fun vs H Q _ => ∃ p a : Int, vs = [.int p, .int a] ∧ Fld p ∧ p ≤ 1000 ∧ 1 ≤ a ∧ a < p ∧ Q (.int (ctr p a)) H
theorem ok_contrary (T : Top K mg) : Ok P w K mg base 1 "contrary" ["p", "a"] sp_contr := by
  refine T.d_contrary.ok sc_contrary (fun vs H Q E h => ?_) (fun f cdv A outer s H vs Q E hr h => ?_)
  · obtain ⟨p, a, rfl, _⟩ := h
    rfl
  · obtain ⟨p, a, rfl, hF, h2, h3, h4, q⟩ := h
    have h1 := hF.1
    refine ⟨_, ((pss_cons (ps_for PassesOwn.never (by rfl) (pi_range2 (by rfl) T.b_range (pa_cons pe_int (pa_cons (pv 0) pa_nil))) (pg_name (i := 2) sc_contrary.nd rfl (.inl rfl))
        (pss_one (ps_if (pt_cmpR op_eq (pe_op op_mod (pe_op op_mul (pv 1) (pv 2)) (pv 0)) pe_int (nomark _))
          (pss_one (ps_ret (pv 2)))
          pss_nil)))
      (pss_one (ps_ret pe_non)))), ?_⟩
    refine ⟨.int p, rfl, 1, p, rfl, ⟨by omega, by omega, by omega, by omega⟩, for_range (lo := 1) (n := (p - 1).toNat) (fun i σ H' => H' = H ∧ (∃ y, σ = [some (.int p), some (.int a), y]) ∧ ∀ b : Int, 1 ≤ b → b < 1 + i → a * b % p ≠ 1) ⟨rfl, ⟨none, rfl⟩, fun b _ _ => by omega⟩ (fun i σ H' hi hW => ?_) (fun σ H' hW => ?_)⟩
    · obtain ⟨rfl, ⟨y, rfl⟩, hn⟩ := hW
      refine ⟨.int a, rfl, .int (1 + i), rfl, a, 1 + i, rfl, rfl, .inl ⟨by omega, by omega⟩, .int p, rfl, _, p, rfl, rfl, by omega, rfl, _, rfl, ite2 (fun e => ?_) (fun e => ?_)⟩
      · have e1 : a * (1 + i) % p = 1 := V.int.inj (of_decide_eq_true e)
        refine ⟨.int (1 + i), rfl, ?_⟩
        rw [ctr_uniq hF h3 h4 (show (1 : Int) ≤ 1 + i by omega) (by omega) e1]
        exact q
      · have e1 : a * (1 + i) % p ≠ 1 := fun z => e (decide_eq_true (congrArg V.int z))
        refine ⟨rfl, ⟨_, rfl⟩, fun b hb1 hb2 => ?_⟩
        by_cases z : b = 1 + i
        · subst z; exact e1
        · exact hn b hb1 (by omega)
    · obtain ⟨rfl, ⟨y, rfl⟩, hn⟩ := hW
      obtain ⟨b, b1, b2, b3⟩ := hF.2 a h3 h4
      exact absurd b3 (hn b b1 (by omega))
def sp_added (K : PySem.W.Frag) : Sp := fun vs H Q _ => ∃ (a b : Addr) (x y : List Int) (p : Int), vs = [.int p, .ref a, .ref b] ∧ SqT K H a (x.map V.int) ∧ SqT K H b (y.map V.int) ∧ x.length ≤ 1000 ∧ 0 < p ∧
  ∀ H' l, Same H H' → H l = none → H' l = some (.tup ((addR p x y).map V.int)) → Q (.ref l) H'
theorem ok_added (T : Top K mg) : Ok P w K mg base 1 "added" ["p", "one", "other"] (sp_added K) := by
  refine T.d_added.ok sc_added (fun vs H Q E h => ?_) (fun f cdv A outer s H vs Q E hr h => ?_)
  · obtain ⟨a, b, x, y, p, rfl, _⟩ := h
    rfl
  · obtain ⟨a, b, x, y, p, rfl, hA, hB, hz, hp, q⟩ := h
    refine ⟨_, ((pss_one (ps_ret (pe_callTy call_tuple_of (by rfl) T.b_tuple (by decide +kernel) (pa_cons (pe_lc (own := [("a", 3), ("b", 4)]) (g := gTup K 2 (gCons (gName 3) (gCons (gName 4) gNil))) (by rfl) sc_added.nd (RZ.pi_zipA (by rfl) T.b_zip (pa_cons (pv 1) (pa_cons (pv 2) pa_nil))) (blkOk_by (own := [("a", 3), ("b", 4)]) (N := N_added) (sc := defScope s_added) (by decide +kernel)) (fun _ _ _ _ _ => (pg_tup (by rfl) (pgs_cons (pg_name (i := 3) sc_added.nd rfl (.inl rfl)) (pgs_cons (pg_name (i := 4) sc_added.nd rfl (.inl rfl)) pgs_nil)))) (fun _ _ _ _ _ => pts_nil) (fun _ _ _ _ _ => (pe_op op_mod (pe_op op_add (pv 3) (pv 4)) (pv 0)))) pa_nil))))), ?_⟩
    refine ⟨.ref a, rfl, .ref b, rfl, a, b, _, _, rfl, .inr ⟨hA, hB, lc_zipI (fun u v => (u + v) % p) hA hB hz (fun _ _ => rfl) (fun u v H' Q' _ _ _ hQ => ?_) (fun D H' sm nD eD => ?_)⟩⟩
    · exact ⟨.int u, rfl, .int v, rfl, u, v, rfl, rfl, .int p, rfl, _, p, rfl, rfl, hp, hQ⟩
    · refine ⟨D, _, rfl, .inl ⟨.inl (.inl eD), fun l nl => ?_⟩⟩
      exact q _ l (sm.trans (same_upd nl)) (sm.free nl) upd_same
def sp_times (K : PySem.W.Frag) : Sp := fun vs H Q _ => ∃ (b : Addr) (x : List Int) (p m : Int), vs = [.int p, .int m, .ref b] ∧ SqT K H b (x.map V.int) ∧ x.length ≤ 1000 ∧ 0 < p ∧ -1000000 ≤ m ∧ m ≤ 1000000 ∧
  ∀ H' l, Same H H' → H l = none → H' l = some (.tup ((timesR p m x).map V.int)) → Q (.ref l) H'
theorem ok_times (T : Top K mg) : Ok P w K mg base 1 "times" ["p", "a", "row"] (sp_times K) := by
  refine T.d_times.ok sc_times (fun vs H Q E h => ?_) (fun f cdv A outer s H vs Q E hr h => ?_)
  · obtain ⟨b, x, p, m, rfl, _⟩ := h
    rfl
  · obtain ⟨b, x, p, m, rfl, hB, hz, hp, hm1, hm2, q⟩ := h
    refine ⟨_, ((pss_one (ps_ret (pe_callTy call_tuple_of (by rfl) T.b_tuple (by decide +kernel) (pa_cons (pe_lc (own := [("rest", 3)]) (g := gName 3) (by rfl) sc_times.nd (pi_tup (pv 2)) (blkOk_by (own := [("rest", 3)]) (N := N_times) (sc := defScope s_times) (by decide +kernel)) (fun _ _ _ _ _ => (pg_name (i := 3) sc_times.nd rfl (.inl rfl))) (fun _ _ _ _ _ => pts_nil) (fun _ _ _ _ _ => (pe_op op_mod (pe_op op_mul (pv 1) (pv 3)) (pv 0)))) pa_nil))))), ?_⟩
    refine ⟨.ref b, rfl, b, rfl, ⟨_, hB⟩, lc_tupI (fun v => m * v % p) hB hz (fun _ => rfl) (fun v H' Q' _ _ hQ => ?_) (fun D H' sm nD eD => ?_)⟩
    · exact ⟨.int m, rfl, .int v, rfl, m, v, rfl, rfl, .inl ⟨by omega, by omega⟩, .int p, rfl, _, p, rfl, rfl, hp, hQ⟩
    · refine ⟨D, _, rfl, .inl ⟨.inl (.inl eD), fun l nl => ?_⟩⟩
      exact q _ l (sm.trans (same_upd nl)) (sm.free nl) upd_same
theorem ok_is_number (T : Top K mg) : Ok P w K mg base 1 "is_number" ["thing"] (sp_whole K) := by
  refine T.d_is_number.ok sc_is_number (fun vs H Q E h => ?_) (fun f cdv A outer s H vs Q E hr h => ?_)
  · obtain ⟨v, k, rfl, _⟩ := h
    rfl
  · obtain ⟨v, k, rfl, ty, q⟩ := h
    refine ⟨_, ((pss_one (ps_ret (pe_and (pe_callB call_isi (by rfl) T.b_isinstance (by decide +kernel) (pa_cons (pv 0) (pa_cons (pe_bltn (v := .ty "int") (u := .type "int") (by rfl) T.b_int (by decide +kernel) rfl) pa_nil))) (pe_one (pe_not (pe_callB call_isi (by rfl) T.b_isinstance (by decide +kernel) (pa_cons (pv 0) (pa_cons (pe_bltn (v := .ty "bool") (u := .type "bool") (by rfl) T.b_bool (by decide +kernel) rfl) pa_nil))))))))), ?_⟩
    refine ⟨v, rfl, v, .ty "int", _, _, _, rfl, .ty "int", ty, kit_int k, _, rfl, ?_⟩
    cases k <;> first | exact q | exact ⟨v, rfl, v, .ty "bool", _, _, _, rfl, .ty "bool", ty, kit_bool _, _, rfl, q⟩
def sp_is_rest (K : PySem.W.Frag) : Sp := fun vs H Q _ => ∃ (p : Int) (v : V) (e : PyData), vs = [.int p, v] ∧ Rep K H NB v e ∧ Q (.bl (restD p e)) H
theorem ok_is_rest (T : Top K mg) : Ok P w K mg base 2 "is_rest" ["p", "thing"] (sp_is_rest K) := by
  have O_is_number := ok_is_number (P := P) (w := w) (base := base) T
  refine T.d_is_rest.ok sc_is_rest (fun vs H Q E h => ?_) (fun f cdv A outer s H vs Q E hr h => ?_)
  · obtain ⟨p, v, e, rfl, _⟩ := h
    rfl
  · obtain ⟨p, v, e, rfl, hv, q⟩ := h
    refine ⟨_, ((pss_one (ps_ret (pe_and (pe_callO O_is_number (hr.mono (by omega)) (by rfl) (pa_cons (pv 1) pa_nil)) (pe_one (pe_chain op_le op_lt pe_int (pv 1) (pv 0))))))), ?_⟩
    refine ⟨v, rfl, v, kdOf e, rfl, hv.kd, _, rfl, ?_⟩
    cases hv with
    | int i =>
      refine iteT ⟨.int i, rfl, 0, i, rfl, rfl, _, rfl, ?_⟩
      by_cases h0 : 0 ≤ i
      · rw [decide_eq_true h0]
        refine iteT ⟨.int p, rfl, i, p, rfl, rfl, ?_⟩
        have e : restD p (.int i) = decide (i < p) := by
          show (decide (0 ≤ i) && decide (i < p)) = decide (i < p)
          rw [decide_eq_true h0, Bool.true_and]
        rw [e] at q
        exact q
      · rw [decide_eq_false h0]
        refine iteF ?_
        have e : restD p (.int i) = false := by
          show (decide (0 ≤ i) && decide (i < p)) = false
          rw [decide_eq_false h0, Bool.false_and]
        rw [e] at q
        exact q
    | _ => exact iteF q
def sp_is_row (K : PySem.W.Frag) : Sp := fun vs H Q _ => ∃ (p n : Int) (v : V) (e : PyData), vs = [.int p, .int n, v] ∧ Rep K H NB v e ∧ lenOk e ∧ ∀ H', Same H H' → Q (.bl (isRowD p n e)) H'
theorem ok_is_row (T : Top K mg) : Ok P w K mg base 3 "is_row" ["p", "n", "thing"] (sp_is_row K) := by
  have O_is_rest := ok_is_rest (P := P) (w := w) (base := base) T
  refine T.d_is_row.ok sc_is_row (fun vs H Q E h => ?_) (fun f cdv A outer s H vs Q E hr h => ?_)
  · obtain ⟨p, n, v, e, rfl, _⟩ := h
    rfl
  · obtain ⟨p, n, v, e, rfl, hv, hl, q⟩ := h
    refine ⟨_, ((pss_one (ps_ret (pe_and (pe_callB call_isi (by rfl) T.b_isinstance (by decide +kernel) (pa_cons (pv 2) (pa_cons (pe_bltn (v := .ty "tuple") (u := .type "tuple") (by rfl) T.b_tuple (by decide +kernel) rfl) pa_nil))) (pe_and (pe_cmpR op_eq (pe_callB call_len_seq (by rfl) T.b_len (by decide +kernel) (pa_cons (pv 2) pa_nil)) (pv 1) (nomark _)) (pe_one (pe_callB (cr_all (by rfl)) (by rfl) T.b_all (by decide +kernel) (pa_cons (pe_lc (own := [("part", 3)]) (g := gName 3) (by rfl) sc_is_row.nd (pi_tup (pv 2)) (blkOk_by (own := [("part", 3)]) (N := N_is_row) (sc := defScope s_is_row) (by decide +kernel)) (fun _ _ _ _ _ => (pg_name (i := 3) sc_is_row.nd rfl (.inl rfl))) (fun _ _ _ _ _ => pts_nil) (fun _ _ _ _ _ => (pe_callO O_is_rest (hr.mono (by omega)) (by rfl) (pa_cons (pv 0) (pa_cons (pv 3) pa_nil))))) pa_nil)))))))), ?_⟩
    refine ⟨v, rfl, v, .ty "tuple", _, _, _, rfl, .ty "tuple", hv.kd, kit_tuple _, _, rfl, ?_⟩
    cases hv with
    | @tup a xs ds hA hx =>
      have lx := repAll_len hx
      have hl : ds.length ≤ 1000 := hl
      refine iteT ⟨.ref a, rfl, a, xs, rfl, .inr hA, .int n, rfl, rfl, _, rfl, ?_⟩
      by_cases hn : (ds.length : Int) = n
      · rw [decide_eq_true (show V.int ((xs.length : Nat) : Int) = V.int n by rw [lx, hn])]
        refine iteT ⟨.ref a, rfl, a, rfl, ⟨_, hA⟩, fun D nD => ?_⟩
        refine lc_it (walk_tup (K := K) (a := a) (xs := xs)) (fun k H' => Same H H' ∧ H' D = some (.lst (((ds.map (restD p)).take k).map V.bl))) ⟨same_mut (Same.refl H) nD, upd_same⟩ (fun k H' _ hP => Same.tup hP.1 hA) (fun k x H1 H2 hk hP hY => ?_) (fun H' hP => ?_)
        · obtain ⟨rfl, e1⟩ := hY
          obtain ⟨sm, eD⟩ := hP
          obtain ⟨e, g, _, rx⟩ := repAll_get hx e1
          refine ⟨rfl, .int p, rfl, x, rfl, p, x, e, rfl, rep_stays (Stays.of sm) _ _ rx, _, eD, ?_, same_mut sm nD, ?_⟩
          · rw [List.length_map, List.length_take, List.length_map]
            exact small1000 (by omega)
          · rw [upd_same, List.take_add_one, List.getElem?_map, g, List.map_append]
            rfl
        · obtain ⟨sm, eD⟩ := hP
          rw [List.take_of_length_le (by rw [List.length_map]; omega)] at eD
          refine ⟨D, ds.map (restD p), rfl, .inl (.inl eD), ?_⟩
          have e : isRowD p n (.tuple ds) = (ds.map (restD p)).all id := by
            show (decide ((ds.length : Int) = n) && ds.all (restD p)) = _
            rw [decide_eq_true hn, Bool.true_and, List.all_map]
            rfl
          have := q H' sm
          rw [e] at this
          exact this
      · rw [decide_eq_false (show ¬ V.int ((xs.length : Nat) : Int) = V.int n from fun z => hn (by rw [← lx]; exact V.int.inj z))]
        refine iteF ?_
        have e : isRowD p n (.tuple ds) = false := by
          show (decide ((ds.length : Int) = n) && ds.all (restD p)) = false
          rw [decide_eq_false hn, Bool.false_and]
        have := q H (Same.refl H)
        rw [e] at this
        exact this
    | _ => exact iteF (q H (Same.refl H))
def sp_noughts (K : PySem.W.Frag) : Sp := fun vs H Q _ => ∃ (a : Addr) (r : List Int), vs = [.ref a] ∧ SqT K H a (r.map V.int) ∧ r.length ≤ 1000 ∧ ∀ H', Same H H' → Q (.bl (r.all fun x => decide (x = 0))) H'
theorem ok_is_noughts (T : Top K mg) : Ok P w K mg base 1 "is_noughts" ["row"] (sp_noughts K) := by
  refine T.d_is_noughts.ok sc_is_noughts (fun vs H Q E h => ?_) (fun f cdv A outer s H vs Q E hr h => ?_)
  · obtain ⟨a, r, rfl, _⟩ := h
    rfl
  · obtain ⟨a, r, rfl, hA, hl, q⟩ := h
    refine ⟨_, ((pss_one (ps_ret (pe_callB (cr_all (by rfl)) (by rfl) T.b_all (by decide +kernel) (pa_cons (pe_lc (own := [("rest", 1)]) (g := gName 1) (by rfl) sc_is_noughts.nd (pi_tup (pv 0)) (blkOk_by (own := [("rest", 1)]) (N := N_is_noughts) (sc := defScope s_is_noughts) (by decide +kernel)) (fun _ _ _ _ _ => (pg_name (i := 1) sc_is_noughts.nd rfl (.inl rfl))) (fun _ _ _ _ _ => pts_nil) (fun _ _ _ _ _ => (pe_cmpR op_eq (pv 1) pe_int (nomark _)))) pa_nil))))), ?_⟩
    refine ⟨.ref a, rfl, a, rfl, ⟨_, hA⟩, fun D nD => ?_⟩
    refine lc_it (walk_tup (K := K) (a := a) (xs := r.map V.int)) (fun k H' => Same H H' ∧ H' D = some (.lst (((r.map fun x => decide (x = 0)).take k).map V.bl))) ⟨same_mut (Same.refl H) nD, upd_same⟩ (fun k H' _ hP => Same.tup hP.1 hA) (fun k x H1 H2 hk hP hY => ?_) (fun H' hP => ?_)
    · obtain ⟨rfl, e1⟩ := hY
      obtain ⟨sm, eD⟩ := hP
      rw [List.getElem?_map] at e1
      cases h1 : r[k]? with
      | none => rw [h1] at e1; cases e1
      | some z =>
        rw [h1] at e1
        have q1 : x = V.int z := (Option.some.inj e1).symm
        subst q1
        refine ⟨rfl, .int z, rfl, rfl, _, eD, ?_, same_mut sm nD, ?_⟩
        · rw [List.length_map, List.length_take, List.length_map]
          exact small1000 (by omega)
        · have ez : decide (V.int z = V.int 0) = decide (z = 0) := decide_eq_decide.mpr ⟨fun e => V.int.inj e, fun e => congrArg V.int e⟩
          rw [upd_same, List.take_add_one, List.getElem?_map, h1, List.map_append, ez]
          rfl
    · obtain ⟨sm, eD⟩ := hP
      rw [List.take_of_length_le (by rw [List.length_map, List.length_map]; exact Nat.le_refl _)] at eD
      refine ⟨D, _, rfl, .inl (.inl eD), ?_⟩
      have := q H' sm
      rw [show (r.all fun x => decide (x = 0)) = (r.map fun x => decide (x = 0)).all id by rw [List.all_map]; rfl] at this
      exact this
def sp_first (K : PySem.W.Frag) : Sp := fun vs H Q _ => ∃ (a : Addr) (r : List Int), vs = [.ref a] ∧ SqT K H a (r.map V.int) ∧ r.length ≤ 1000 ∧ (fpR r < r.length → ∀ H', Same H H' → Q (.int (fpR r : Int)) H') ∧ (fpR r = r.length → ∀ H', Same H H' → Q .non H')
theorem ok_first_place (T : Top K mg) : Ok P w K mg base 1 "first_place" ["row"] (sp_first K) := by
  refine T.d_first_place.ok sc_first_place (fun vs H Q E h => ?_) (fun f cdv A outer s H vs Q E hr h => ?_)
  · obtain ⟨a, r, rfl, _⟩ := h
    rfl
  · obtain ⟨a, r, rfl, hA, hl, q1, q2⟩ := h
    refine ⟨_, ((pss_cons (ps_for PassesOwn.never (by rfl) (pi_enumT (by rfl) T.b_enumerate (pa_cons (pv 0) pa_nil)) (pg_tup (by rfl) (pgs_cons (pg_name (i := 1) sc_first_place.nd rfl (.inl rfl)) (pgs_cons (pg_name (i := 2) sc_first_place.nd rfl (.inl rfl)) pgs_nil)))
        (pss_one (ps_if (pt_cmpR op_ne (pv 2) pe_int (nomark _))
          (pss_one (ps_ret (pv 1)))
          pss_nil)))
      (pss_one (ps_ret pe_non)))), ?_⟩
    refine ⟨.ref a, rfl, a, _, rfl, hA, for_it (walk_enumT (K := K) (a := a) (xs := r.map V.int)) (fun i σ H' => Same H H' ∧ (∀ j, j < i → r.getD j 0 = 0) ∧ ∃ y1 y2, σ = [some (.ref a), y1, y2]) ⟨Same.refl H, fun j hj => absurd hj (Nat.not_lt_zero _), none, none, rfl⟩ (fun i σ H' _ hW => Same.tup hW.1 hA) (fun i v σ H1 H2 hi hW hY => ?_) (fun σ H' hW => ?_)⟩
    · obtain ⟨sm, lo, y1, y2, rfl⟩ := hW
      obtain ⟨Ta, x, y, rfl, nT, rfl, g1, g2⟩ := hY
      rw [List.length_map] at hi
      have g1 : x = V.int (i : Nat) := (Option.some.inj g1).symm
      have g2 : (r.map V.int)[i]? = some y := g2
      rw [List.getElem?_map, List.getElem?_eq_getElem hi] at g2
      have g2 : y = V.int r[i] := (Option.some.inj g2).symm
      subst g1 g2
      have sT : Same H1 (upd H1 Ta (.tup [.int (i : Nat), .int r[i]])) := same_upd nT
      refine ⟨Ta, [.int (i : Nat), .int r[i]], rfl, .inl (.inl upd_same), rfl, .int (i : Nat), [.int r[i]], rfl, .int r[i], [], rfl, rfl, ?_⟩
      refine ⟨.int r[i], rfl, rfl, _, rfl, ite2 (fun e => ?_) (fun e => ?_)⟩
      · have nz : r.getD i 0 ≠ 0 := fun z => by
          rw [gd_lt hi] at z
          rw [z] at e
          cases e
        have ef := fpR_of nz lo
        refine ⟨.int (i : Nat), rfl, ?_⟩
        have := q1 (by omega) _ (sm.trans sT)
        rw [ef] at this
        exact this
      · refine ⟨sm.trans sT, fun j hj => ?_, _, _, rfl⟩
        by_cases ej : j = i
        · subst ej
          rw [gd_lt hi]
          apply Classical.byContradiction
          intro hn
          apply e
          rw [decide_eq_false (fun z => hn (V.int.inj z))]
          rfl
        · exact lo j (by omega)
    · obtain ⟨sm, lo, y1, y2, rfl⟩ := hW
      refine q2 ?_ _ sm
      rw [List.length_map] at lo
      rcases Nat.lt_or_ge (fpR r) r.length with h | h
      · exact absurd (lo _ h) (fpR_at h)
      · have := fpR_le r
        omega
def sp_cleared (K : PySem.W.Frag) : Sp := fun vs H Q _ => ∃ (a b : Addr) (r c : List Int) (p : Int) (n : Nat), vs = [.int p, .ref b, .ref a] ∧ SqT K H a (r.map V.int) ∧ SqT K H b (c.map V.int) ∧ RowsOk p n [r] ∧ c.length = n ∧ fpR c < n ∧ n ≤ 1000 ∧ 0 < p ∧ p ≤ 100000 ∧
  ∀ H' l, Same H H' → SqT K H' l ((lessR p r c (fpR c)).map V.int) → Q (.ref l) H'
theorem ok_cleared (T : Top K mg) : Ok P w K mg base 2 "cleared" ["p", "plain", "row"] (sp_cleared K) := by
  have O_first_place := ok_first_place (P := P) (w := w) (base := base) T
  have O_added := ok_added (P := P) (w := w) (base := base) T
  have O_times := ok_times (P := P) (w := w) (base := base) T
  refine T.d_cleared.ok sc_cleared (fun vs H Q E h => ?_) (fun f cdv A outer s H vs Q E hr h => ?_)
  · obtain ⟨a, b, r, c, p, n, rfl, _⟩ := h
    rfl
  · obtain ⟨a, b, r, c, p, n, rfl, hA, hB, okr, lc, hfp, hn, hp, hp2, q⟩ := h
    refine ⟨_, ((pss_cons (ps_set (i := 3) sc_cleared.nd rfl (.inl rfl) (pe_ix ix_tup (pv 2) (pe_callO O_first_place (hr.mono (by omega)) (by rfl) (pa_cons (pv 1) pa_nil)) (fun _ _ => rfl)))
      (pss_cons (ps_if (pt_cmpR op_eq (pv 3) pe_int (nomark _))
        (pss_one (ps_ret (pv 2)))
        pss_nil)
      (pss_one (ps_ret (pe_callO O_added (hr.mono (by omega)) (by rfl) (pa_cons (pv 0) (pa_cons (pv 2) (pa_cons (pe_callO O_times (hr.mono (by omega)) (by rfl) (pa_cons (pv 0) (pa_cons (pe_op op_sub (pv 0) (pv 3)) (pa_cons (pv 1) pa_nil)))) pa_nil))))))))), ?_⟩
    have okr := okr r List.mem_cons_self
    have bj := rowOk_getD okr hfp
    refine ⟨.ref a, rfl, .ref b, rfl, b, c, rfl, hB, by omega, fun hlt H1 s1 => ?_, fun e => by omega⟩
    refine ⟨a, _, _, _, rfl, rfl, Same.tup s1 hA, at_row (by rw [okr.1]; exact hfp), ?_⟩
    refine ⟨.int (r.getD (fpR c) 0), rfl, rfl, _, rfl, ite2 (fun e => ?_) (fun e => ?_)⟩
    · have z : r.getD (fpR c) 0 = 0 := V.int.inj (of_decide_eq_true e)
      refine ⟨.ref a, rfl, q H1 a s1 ?_⟩
      unfold lessR
      rw [z, less_zero r c (by rw [okr.1, lc]) okr.2]
      exact Same.tup s1 hA
    · refine ⟨.int p, rfl, .ref a, rfl, .int p, rfl, .int p, rfl, .int (r.getD (fpR c) 0), rfl, _, _, rfl, rfl, .ref b, rfl, b, c, p, _, rfl, Same.tup s1 hB, by omega, hp, by omega, by omega, fun H2 l2 s2 n2 e2 => ?_⟩
      refine ⟨a, l2, r, _, p, rfl, Same.tup (s1.trans s2) hA, .inl (.inl e2), by omega, hp, fun H3 l3 s3 n3 e3 => ?_⟩
      refine q H3 l3 ((s1.trans s2).trans s3) (.inl (.inl ?_))
      rw [less_eq] at e3
      exact e3
def sp_left (K : PySem.W.Frag) : Sp := fun vs H Q _ => ∃ (a b : Addr) (room : List (List Int)) (r : List Int) (p : Int) (n : Nat), vs = [.int p, .ref b, .ref a] ∧ RowsAt K H b room ∧ SqT K H a (r.map V.int) ∧ RowsOk p n room ∧ (∀ c ∈ room, fpR c < n) ∧ RowsOk p n [r] ∧ n ≤ 1000 ∧ 0 < p ∧ p ≤ 100000 ∧
  ∀ H' l, Same H H' → SqT K H' l ((leftR p room r).map V.int) → Q (.ref l) H'
theorem ok_left_of (T : Top K mg) : Ok P w K mg base 3 "left_of" ["p", "room", "row"] (sp_left K) := by
  have O_cleared := ok_cleared (P := P) (w := w) (base := base) T
  refine T.d_left_of.ok sc_left_of (fun vs H Q E h => ?_) (fun f cdv A outer s H vs Q E hr h => ?_)
  · obtain ⟨a, b, room, r, p, n, rfl, _⟩ := h
    rfl
  · obtain ⟨a, b, room, r, p, n, rfl, ⟨ws, hB, hR⟩, hA, ok, hfp, okr, hn, hp, hp2, q⟩ := h
    refine ⟨_, ((pss_cons (ps_for PassesOwn.never (by rfl) (pi_tup (pv 1)) (pg_name (i := 3) sc_left_of.nd rfl (.inl rfl))
        (pss_one (ps_set (i := 2) sc_left_of.nd rfl (.inl rfl) (pe_callO O_cleared (hr.mono (by omega)) (by rfl) (pa_cons (pv 0) (pa_cons (pv 3) (pa_cons (pv 2) pa_nil)))))))
      (pss_one (ps_ret (pv 2))))), ?_⟩
    have lw := rows_len hR
    refine ⟨.ref b, rfl, b, rfl, ⟨_, hB⟩, for_it (walk_tup (K := K) (a := b) (xs := ws)) (fun i σ H' => Same H H' ∧ ∃ (l : Addr) (y3 : Option V), SqT K H' l ((leftR p (room.take i) r).map V.int) ∧ σ = [some (.int p), some (.ref b), some (.ref l), y3]) ⟨Same.refl H, a, none, hA, rfl⟩ (fun i σ H' _ hW => Same.tup hW.1 hB) (fun i x σ H1 H2 hi hW hY => ?_) (fun σ H' hW => ?_)⟩
    · obtain ⟨sm, l, y3, hl, rfl⟩ := hW
      obtain ⟨rfl, e1⟩ := hY
      obtain ⟨c, rc, rfl, gr, mr, hc⟩ := dpAll_row (dpAll_same sm _ _ hR) e1
      have okc := ok rc mr
      refine ⟨.int p, rfl, .ref c, rfl, .ref l, rfl, l, c, leftR p (room.take i) r, rc, p, n, rfl, hl, hc, leftR_ok hp _ _ (fun x hx => ok x (List.mem_of_mem_take hx)) okr, okc.1, hfp rc mr, hn, hp, hp2, fun H3 l3 s3 h3 => ?_⟩
      refine ⟨sm.trans s3, l3, _, ?_, rfl⟩
      rw [leftR_take gr]
      exact h3
    · obtain ⟨sm, l, y3, hl, rfl⟩ := hW
      rw [List.take_of_length_le (by omega)] at hl
      exact ⟨.ref l, rfl, q H' l sm hl⟩
def sp_within (K : PySem.W.Frag) : Sp := fun vs H Q _ => ∃ (a b : Addr) (room : List (List Int)) (r : List Int) (p : Int) (n : Nat), vs = [.int p, .ref b, .ref a] ∧ RowsAt K H b room ∧ SqT K H a (r.map V.int) ∧ PFR p n room ∧ RowsOk p n [r] ∧ Fld p ∧ n ≤ 100 ∧ p ≤ 1000 ∧
  ∀ H', Same H H' → Q (.bl (hasR p n room r)) H'
theorem ok_within (T : Top K mg) : Ok P w K mg base 4 "within" ["p", "room", "row"] (sp_within K) := by
  have O_left_of := ok_left_of (P := P) (w := w) (base := base) T
  have O_is_noughts := ok_is_noughts (P := P) (w := w) (base := base) T
  refine T.d_within.ok sc_within (fun vs H Q E h => ?_) (fun f cdv A outer s H vs Q E hr h => ?_)
  · obtain ⟨a, b, room, r, p, n, rfl, _⟩ := h
    rfl
  · obtain ⟨a, b, room, r, p, n, rfl, hB, hA, pf, okr, hF, hn, hp, q⟩ := h
    have h2 := hF.1
    refine ⟨_, ((pss_one (ps_ret (pe_callO O_is_noughts (hr.mono (by omega)) (by rfl) (pa_cons (pe_callO O_left_of (hr.mono (by omega)) (by rfl) (pa_cons (pv 0) (pa_cons (pv 1) (pa_cons (pv 2) pa_nil)))) pa_nil))))), ?_⟩
    refine ⟨.int p, rfl, .ref b, rfl, .ref a, rfl, a, b, room, r, p, n, rfl, hB, hA, pf.1, pf.fp_lt hF, okr, by omega, by omega, by omega, fun H1 l s1 h1 => ?_⟩
    have okl := pf.left_ok hF okr _ List.mem_cons_self
    refine ⟨l, _, rfl, h1, by omega, fun H' s' => ?_⟩
    rw [hasR_iff hF pf okr]
    exact q H' (s1.trans s')
def sp_widened (K : PySem.W.Frag) : Sp := fun vs H Q _ => ∃ (a b : Addr) (room : List (List Int)) (r : List Int) (p : Int) (n : Nat), vs = [.int p, .ref b, .ref a] ∧ RowsAt K H b room ∧ SqT K H a (r.map V.int) ∧ PFR p n room ∧ RowsOk p n [r] ∧ Fld p ∧ 1 ≤ n ∧ n ≤ 100 ∧ p ≤ 1000 ∧
  ∀ H' l, Same H H' → RowsAt K H' l (plainR p n (room ++ [r])) → Q (.ref l) H'
theorem ok_widened (T : Top K mg) : Ok P w K mg base 4 "widened" ["p", "room", "row"] (sp_widened K) := by
  have O_left_of := ok_left_of (P := P) (w := w) (base := base) T
  have O_first_place := ok_first_place (P := P) (w := w) (base := base) T
  have O_times := ok_times (P := P) (w := w) (base := base) T
  have O_contrary := ok_contrary (P := P) (w := w) (base := base) T
  have O_cleared := ok_cleared (P := P) (w := w) (base := base) T
  refine T.d_widened.ok sc_widened (fun vs H Q E h => ?_) (fun f cdv A outer s H vs Q E hr h => ?_)
  · obtain ⟨a, b, room, r, p, n, rfl, _⟩ := h
    rfl
  · obtain ⟨a, b, room, r, p, n, rfl, hB, hA, pf, okr, hF, n1, hn, hp, q⟩ := h
    have h2 := hF.1
    have lroom : room.length ≤ n := by
      have := plainR_lenle hF pf.1
      rwa [pf.2] at this
    refine ⟨_, ((pss_cons (ps_set (i := 3) sc_widened.nd rfl (.inl rfl) (pe_callO O_left_of (hr.mono (by omega)) (by rfl) (pa_cons (pv 0) (pa_cons (pv 1) (pa_cons (pv 2) pa_nil)))))
      (pss_cons (ps_set (i := 4) sc_widened.nd rfl (.inl rfl) (pe_callO O_first_place (hr.mono (by omega)) (by rfl) (pa_cons (pv 3) pa_nil)))
      (pss_cons (ps_if (pt_cmpR op_isN (pv 4) pe_non (nomark _))
        (pss_one (ps_ret (pv 1)))
        pss_nil)
      (pss_cons (ps_set (i := 5) sc_widened.nd rfl (.inr rfl) (pe_callO O_times (hr.mono (by omega)) (by rfl) (pa_cons (pv 0) (pa_cons (pe_callO O_contrary (hr.mono (by omega)) (by rfl) (pa_cons (pv 0) (pa_cons (pe_ix ix_tup (pv 3) (pv 4) (fun _ _ => rfl)) pa_nil))) (pa_cons (pv 3) pa_nil)))))
      (pss_one (ps_ret (pe_callTy call_tuple_of (by rfl) T.b_tuple (by decide +kernel) (pa_cons (pe_callBK cr_sortTR (by rfl) T.b_sorted (by decide +kernel) (pa_cons (pe_op op_cat (pe_lst (pa_cons (pv 5) pa_nil)) (pe_lc (own := [("plain", 6)]) (g := gName 6) (by rfl) sc_widened.nd (pi_tup (pv 1)) (blkOk_by (own := [("plain", 6)]) (N := N_widened) (sc := defScope s_widened) (by decide +kernel)) (fun _ _ _ _ _ => (pg_name (i := 6) sc_widened.nd rfl (.inl rfl))) (fun _ _ _ _ _ => pts_nil) (fun _ _ _ _ _ => (pe_callO O_cleared (hr.mono (by omega)) (by rfl) (pa_cons (pv 0) (pa_cons (pv 5) (pa_cons (pv 6) pa_nil))))))) pa_nil) (pk_cons pe_bl pk_nil)) pa_nil))))))))), ?_⟩
    refine ⟨.int p, rfl, .ref b, rfl, .ref a, rfl, a, b, room, r, p, n, rfl, hB, hA, pf.1, pf.fp_lt hF, okr, by omega, by omega, by omega, fun H1 l s1 h1 => ?_⟩
    have okl := pf.left_ok hF okr _ List.mem_cons_self
    have wid := fun rs => pf.widen (rs := rs) hF okr
    have wid0 := pf.widen0 hF okr
    generalize hy : leftR p room r = y at h1 okl wid wid0
    refine ⟨.ref l, rfl, l, y, rfl, h1, by omega, fun hlt H2 s2 => ?_, fun e H2 s2 => ?_⟩
    · -- a fresh row
      refine ⟨.int (fpR y : Int), rfl, rfl, _, rfl, ?_⟩
      rw [decide_eq_false (fun z => by cases z)]
      refine iteF ?_
      rw [okl.1] at hlt
      have bj := rowOk_getD okl hlt
      have nz : y.getD (fpR y) 0 ≠ 0 := fpR_at (by rw [okl.1]; exact hlt)
      have hl2 := Same.tup s2 h1
      refine ⟨.int p, rfl, .int p, rfl, .ref l, rfl, .int (fpR y : Int), rfl, l, _, _, _, rfl, rfl, hl2, at_row (by rw [okl.1]; exact hlt), p, _, rfl, hF, hp, by omega, bj.2, .ref l, rfl, l, y, p, ctr p (y.getD (fpR y) 0), rfl, hl2, by omega, by omega, ?_, ?_, fun H3 l3 s3 n3 e3 => ?_⟩
      · have := (ctr_ok hF (show 1 ≤ y.getD (fpR y) 0 by omega) bj.2).1
        omega
      · have := (ctr_ok hF (show 1 ≤ y.getD (fpR y) 0 by omega) bj.2).2.1
        omega
      have e3 : H3 l3 = some (.tup ((ownR p y (fpR y)).map V.int)) := e3
      have okf := own_row (p := p) (by omega) okl.1 (fpR y)
      have wid := fun rs => wid rs hlt
      -- its first place
      have ff : fpR (ownR p y (fpR y)) = fpR y := by
        have hc := ctr_ok hF (show 1 ≤ y.getD (fpR y) 0 by omega) bj.2
        have gd : ∀ i, i < n → (ownR p y (fpR y)).getD i 0 = ctr p (y.getD (fpR y) 0) * y.getD i 0 % p := fun i hi => by
          unfold ownR
          rw [gd_lt (by rw [List.length_map, okl.1]; exact hi), List.getElem_map, gd_lt (r := y) (i := i) (by rw [okl.1]; exact hi)]
        refine fpR_of ?_ fun i hi => ?_
        · rw [gd _ hlt, Int.mul_comm, hc.2.2]
          decide
        · rw [gd _ (by omega), fpR_low hi, Int.mul_zero, Int.zero_emod]
      generalize ownR p y (fpR y) = fr at e3 okf wid ff
      refine ⟨.ref l3, rfl, sz1000 (by decide : (1 : Nat) ≤ 1000), fun L nL => ?_⟩
      generalize h4 : upd H3 L _ = H4
      obtain ⟨s4, e4⟩ := new_of h4 nL
      have t14 : Same H H4 := ((s1.trans s2).trans s3).trans s4
      obtain ⟨ws, hB4, hR4⟩ := RowsAt.same t14 hB
      have lw := rows_len hR4
      have hf4 : SqT K H4 l3 (fr.map V.int) := .inl (.inl (s4 _ _ e3))
      refine ⟨.ref b, rfl, b, rfl, ⟨_, hB4⟩, lc_mapR (fun d => rowD (lessR p (intsOf d) fr (fpR fr))) (walk_tup (K := K) (a := b) (xs := ws)) (fun H' s => Same.tup s hB4) (rep_rows hR4) (by omega) (fun _ => rfl) (fun v d H' Q' md rv sm hQ => ?_) (fun D H5 vs5 s5 n5 e5 r5 => ?_)⟩
      · obtain ⟨x, mx, rfl⟩ := List.mem_map.mp md
        obtain ⟨c, rfl, hc⟩ := rep_row rv
        rw [ints_row] at hQ
        refine ⟨.int p, rfl, .ref l3, rfl, .ref c, rfl, c, l3, x, fr, p, n, rfl, hc, Same.tup sm hf4, rowsOk_one (pf.1 x mx), okf.1, by omega, by omega, by omega, by omega, fun H'' l'' s'' h'' => hQ (.ref l'') H'' s'' (row_rep h'')⟩
      have em : (room.map rowD).map (fun d => rowD (lessR p (intsOf d) fr (fpR fr))) = (room.map fun x => lessR p x fr (fpR y)).map rowD := by
        rw [List.map_map, List.map_map]
        apply List.map_congr_left
        intro x _
        show rowD (lessR p (intsOf (rowD x)) fr (fpR fr)) = rowD (lessR p x fr (fpR y))
        rw [ints_row, ff]
      rw [em] at r5
      have d5 := rows_rep r5
      have lv5 : vs5.length = room.length := by
        have := rows_len d5
        rwa [List.length_map] at this
      have e45 := s5 _ _ e4
      refine ⟨L, D, _, _, rfl, rfl, e45, e5, sz1000 (by simp; omega), fun C nC => ?_⟩
      generalize h6 : upd H5 C _ = H6
      obtain ⟨s6, e6⟩ := new_of h6 nC
      have t46 : Same H4 H6 := s5.trans s6
      have hf6 := Same.tup t46 hf4
      have d6 : DpAll K H6 ([V.ref l3] ++ vs5) ((fr :: room.map fun x => lessR p x fr (fpR y)).map rowD) := .cons (row_dp hf6) (dpAll_same s6 _ _ d5)
      have okL : RowsOk p n (fr :: room.map fun x => lessR p x fr (fpR y)) := fun x hx => by
        rcases List.mem_cons.mp hx with rfl | hx
        · exact okf
        · obtain ⟨z, hz, rfl⟩ := List.mem_map.mp hx
          exact less_row (by omega) (pf.1 z hz).1 okf.1 _
      refine ⟨C, _, n, p, rfl, rfl, n1, .inl (.inl e6), fun x hx => ?_, fun ys S pm pw nS => ?_⟩
      · obtain ⟨i, hi, rfl⟩ := List.getElem_of_mem hx
        obtain ⟨c, rc, ec, gr, mr, hc⟩ := dpAll_row d6 (List.getElem?_eq_getElem hi)
        exact ⟨rc, ⟨c, ec, hc⟩, (okL rc mr).1, (okL rc mr).2⟩
      generalize h7 : upd H6 S _ = H7
      obtain ⟨s7, e7⟩ := new_of h7 nS
      obtain ⟨rs', pm', d'⟩ := dpAll_perm pm d6
      have pw' := dpAll_pw d' pw
      have er := wid rs' pm' pw'
      refine ⟨S, ys, rfl, .inl ⟨.inl (.inl e7), fun R nR => ?_⟩⟩
      generalize h8 : upd H7 R _ = H8
      obtain ⟨s8, e8⟩ := new_of h8 nR
      refine q H8 R (((t14.trans t46).trans s7).trans s8) ⟨ys, .inl (.inl e8), ?_⟩
      rw [← er]
      exact dpAll_same (s7.trans s8) _ _ d'
    · -- nothing new
      refine ⟨.non, rfl, rfl, _, rfl, ?_⟩
      rw [decide_eq_true rfl]
      refine iteT ⟨.ref b, rfl, q H2 b (s1.trans s2) ?_⟩
      rw [← wid0 (fpR_all e)]
      exact RowsAt.same (s1.trans s2) hB
def sp_room_of (K : PySem.W.Frag) : Sp := fun vs H Q _ => ∃ (a : Addr) (rs : List (List Int)) (p : Int) (n : Nat), vs = [.int p, .int (n : Int), .ref a] ∧ RowsAt K H a rs ∧ RowsOk p n rs ∧ Fld p ∧ 1 ≤ n ∧ n ≤ 100 ∧ p ≤ 1000 ∧
  ∀ H' l, Same H H' → RowsAt K H' l (plainR p n rs) → Q (.ref l) H'
theorem ok_room_of (T : Top K mg) : Ok P w K mg base 5 "room_of" ["p", "n", "rows"] (sp_room_of K) := by
  have O_widened := ok_widened (P := P) (w := w) (base := base) T
  refine T.d_room_of.ok sc_room_of (fun vs H Q E h => ?_) (fun f cdv A outer s H vs Q E hr h => ?_)
  · obtain ⟨a, rs, p, n, rfl, _⟩ := h
    rfl
  · obtain ⟨a, rs, p, n, rfl, ⟨ws, hA, hR⟩, ok, hF, n1, hn, hp, q⟩ := h
    refine ⟨_, ((pss_cons (ps_set (i := 3) sc_room_of.nd rfl (.inl rfl) (pe_tup pa_nil))
      (pss_cons (ps_for PassesOwn.never (by rfl) (pi_tup (pv 2)) (pg_name (i := 4) sc_room_of.nd rfl (.inl rfl))
        (pss_cons (ps_if (pt_cmpR op_eq (pe_callB call_len_seq (by rfl) T.b_len (by decide +kernel) (pa_cons (pv 3) pa_nil)) (pv 1) (nomark _))
          (pss_one (ps_ret (pv 3)))
          pss_nil)
        (pss_one (ps_set (i := 3) sc_room_of.nd rfl (.inl rfl) (pe_callO O_widened (hr.mono (by omega)) (by rfl) (pa_cons (pv 0) (pa_cons (pv 3) (pa_cons (pv 4) pa_nil))))))))
      (pss_one (ps_ret (pv 3)))))), ?_⟩
    have lw := rows_len hR
    refine ⟨Nat.zero_le _, fun z nz => ?_⟩
    generalize h1 : upd H z _ = H1
    obtain ⟨s1, e1⟩ := new_of h1 nz
    have hA1 := Same.tup s1 hA
    refine ⟨.ref a, rfl, a, rfl, ⟨_, hA1⟩, for_it (walk_tup (K := K) (a := a) (xs := ws)) (fun i σ H' => Same H H' ∧ ∃ (b : Addr) (y4 : Option V), RowsAt K H' b (plainR p n (rs.take i)) ∧ σ = [some (.int p), some (.int (n : Int)), some (.ref a), some (.ref b), y4]) ⟨s1, z, none, ⟨[], .inl (.inl e1), ?_⟩, rfl⟩ (fun i σ H' _ hW => Same.tup hW.1 hA) (fun i x σ H2 H3 hi hW hY => ?_) (fun σ H' hW => ?_)⟩
    · rw [List.take_zero, plainR_nil]
      exact .nil
    · obtain ⟨sm, b, y4, hb, rfl⟩ := hW
      obtain ⟨rfl, e1⟩ := hY
      obtain ⟨c, r, rfl, gr, mr, hc⟩ := dpAll_row (dpAll_same sm _ _ hR) e1
      have okt : RowsOk p n (rs.take i) := fun x hx => ok x (List.mem_of_mem_take hx)
      have okr : RowsOk p n [r] := rowsOk_one (ok r mr)
      have pf := PFR.of_plain hF okt
      have eapp : rs.take (i + 1) = rs.take i ++ [r] := by
        rw [List.take_add_one, gr]
        rfl
      obtain ⟨wb, hb1, hb2⟩ := id hb
      have lb := rows_len hb2
      refine ⟨.ref b, rfl, b, wb, rfl, .inr hb1, .int n, rfl, rfl, _, rfl, ite2 (fun e => ?_) (fun e => ?_)⟩
      · have e : wb.length = n := by
          have := V.int.inj (of_decide_eq_true e)
          omega
        refine ⟨.ref b, rfl, q _ b sm ?_⟩
        have ef : plainR p n rs = plainR p n (rs.take i) := by
          have := plain_full hF okt (show RowsOk p n (rs.drop i) from fun x hx => ok x (List.mem_of_mem_drop hx)) (by omega)
          rwa [List.take_append_drop] at this
        rw [ef]
        exact hb
      · refine ⟨.int p, rfl, .ref b, rfl, .ref c, rfl, c, b, plainR p n (rs.take i), r, p, n, rfl, hb, hc, pf, okr, hF, n1, hn, hp, fun H4 l s4 h4 => ?_⟩
        refine ⟨sm.trans s4, l, _, ?_, rfl⟩
        rw [eapp, ← plainR_app hF okt okr]
        exact h4
    · obtain ⟨sm, b, y4, hb, rfl⟩ := hW
      rw [List.take_of_length_le (by omega)] at hb
      exact ⟨.ref b, rfl, q H' b sm hb⟩
def sp_deck (K : PySem.W.Frag) : Sp := fun vs H Q _ => ∃ (a : Addr) (ns : List Int), vs = [.ref a] ∧ SqL K H a (ns.map V.int) ∧ ns.length ≤ 63 ∧ ∀ H' d c, Same H H' → Deck H' d c 0 → H d = none → H c = none → Q (.ref d) H'
theorem ok__law_deck (T : Top K mg) : Ok P w K mg base 1 "_law_deck" ["_law_script"] (sp_deck K) := by
  refine T.d__law_deck.ok sc__law_deck (fun vs H Q E h => ?_) (fun f cdv A outer s H vs Q E hr h => ?_)
  · obtain ⟨a, ns, rfl, _⟩ := h
    rfl
  · obtain ⟨a, ns, rfl, hS, hl, q⟩ := h
    refine ⟨_, ((pss_one (ps_ret (pe_lst (pa_cons (pe_lc (own := [("_law_cell", 1)]) (g := gName 1) (by rfl) sc__law_deck.nd (pi_list (pe_slice sl_list (pv 0) po_none (po_some pe_int))) (blkOk_by (own := [("_law_cell", 1)]) (N := N__law_deck) (sc := defScope s__law_deck) (by decide +kernel)) (fun _ _ _ _ _ => (pg_name (i := 1) sc__law_deck.nd rfl (.inl rfl))) (fun _ _ _ _ _ => pts_nil) (fun _ _ _ _ _ => (pe_callB call_abs (by rfl) T.b_abs (by decide +kernel) (pa_cons (pv 1) pa_nil)))) (pa_cons pe_int pa_nil)))))), ?_⟩
    refine ⟨.ref a, rfl, 63, rfl, a, ns.map V.int, rfl, hS, fun l nl => ?_⟩
    have ec : cutV (ns.map V.int) none (some 63) = ns.map V.int := by
      unfold cutV
      rw [HT.sIx_none, show HT.sIx (ns.map V.int).length (ns.map V.int).length (some 63) = min 63 (ns.map V.int).length from HT.sIx_nat _ _ 63]
      rw [List.drop_zero]
      exact List.take_of_length_le (by rw [List.length_map]; omega)
    rw [ec]
    have s1 : Same H (upd H l (.lst (ns.map V.int))) := same_upd nl
    refine ⟨l, rfl, ⟨_, .inl (.inl upd_same)⟩, fun D nD => ?_⟩
    have nl' : H D = none := s1.free nD
    have nDl : l ≠ D := ne_of_none upd_same nD
    refine lc_list (xs := ns.map V.int) (fun i H' => Same H H' ∧ H' l = some (.lst (ns.map V.int)) ∧ H' D = some (.lst ((ns.take i).map fun x => V.int (if x < 0 then -x else x)))) ⟨same_mut s1 nl', ?_, ?_⟩ (fun i H' _ hP => .inl (.inl hP.2.1)) (fun i x H' hx hP => ?_) (fun H' hP => ?_)
    · rw [upd_ne nDl, upd_same]
    · rw [upd_same]; rfl
    · obtain ⟨sm, e1, e2⟩ := hP
      rw [List.getElem?_map] at hx
      cases hn : ns[i]? with
      | none => rw [hn] at hx; cases hx
      | some z =>
        rw [hn] at hx
        have ez : x = V.int z := (Option.some.inj hx).symm
        subst ez
        refine ⟨rfl, .int z, rfl, z, rfl, _, e2, ?_, same_mut sm nl', ?_, ?_⟩
        · rw [List.length_map, List.length_take]
          exact Nat.lt_of_le_of_lt (Nat.min_le_right _ _) (small1000 (by omega))
        · rw [upd_ne nDl]; exact e1
        · rw [upd_same, List.take_add_one, hn, List.map_append]
          rfl
    · obtain ⟨sm, e1, e2⟩ := hP
      rw [List.length_map, List.take_length] at e2
      refine ⟨(by show 2 ≤ sizeLine; decide), fun p np => ?_⟩
      have sp : Same H' (upd H' p (.lst [.ref D, .int 0])) := same_upd np
      refine q _ p D (sm.trans sp) ⟨upd_same, ⟨ns.map fun x => if x < 0 then -x else x, ?_, fun x hx => ?_, by rw [List.length_map]; exact hl⟩, fun z => ?_, by decide⟩ (sm.free np) nl'
      · rw [sp _ _ e2, List.map_map]
        rfl
      · obtain ⟨y, _, rfl⟩ := List.mem_map.mp hx
        by_cases hy : y < 0
        · rw [if_pos hy]; omega
        · rw [if_neg hy]; omega
      · subst z
        rw [e2] at np
        cases np
theorem wide_m {m : Int} (h0 : 0 < m) (h1 : m < 100000000000000000000) : m.natAbs.log2 < 9000 := by
  have e : (2 : Nat) ^ 67 = 147573952589676412928 := by decide
  have := PySem.Flt.log2_lt_of (k := 67) (n := m.natAbs) (by decide) (by rw [e]; omega)
  omega
def sp_draw : Sp := fun vs H Q _ => ∃ (d c : Addr) (t m : Int), vs = [.ref d, .int m] ∧ Deck H d c t ∧ t < 1000000 ∧ 0 < m ∧ m < 100000000000000000000 ∧ ∀ H' r, Kept d c H H' → Deck H' d c (t + 1) → 0 ≤ r → r < m → Q (.int r) H'
theorem ok__law_draw (T : Top K mg) : Ok P w K mg base 1 "_law_draw" ["_law_deck_here", "_law_many"] sp_draw := by
  refine T.d__law_draw.ok sc__law_draw (fun vs H Q E h => ?_) (fun f cdv A outer s H vs Q E hr h => ?_)
  · obtain ⟨d, c, t, m, rfl, _⟩ := h
    rfl
  · obtain ⟨d, c, t, m, rfl, ⟨hd, ⟨cells, hc, hp, hl⟩, hne, ht0⟩, ht, hm0, hm1, q⟩ := h
    refine ⟨_, ((pss_cons (ps_asg (pe_op op_add (pe_ix ix_list (pv 0) pe_int (fun _ _ => rfl)) pe_int) (pg_sub (pv 0) pe_int set_list))
      (pss_cons (ps_set (i := 2) sc__law_draw.nd rfl (.inl rfl) pe_int)
      (pss_cons (ps_set (i := 3) sc__law_draw.nd rfl (.inl rfl) (pe_un un_neg pe_int))
      (pss_cons (ps_if (pt_cmpR op_gt (pe_callB call_len_seq (by rfl) T.b_len (by decide +kernel) (pa_cons (pe_ix ix_list (pv 0) pe_int (fun _ _ => rfl)) pa_nil)) pe_int (nomark _))
        (pss_cons (ps_set (i := 3) sc__law_draw.nd rfl (.inl rfl) (pe_op op_mod (pe_ix ix_list (pv 0) pe_int (fun _ _ => rfl)) (pe_callB call_len_seq (by rfl) T.b_len (by decide +kernel) (pa_cons (pe_ix ix_list (pv 0) pe_int (fun _ _ => rfl)) pa_nil))))
        (pss_one (ps_set (i := 2) sc__law_draw.nd rfl (.inl rfl) (pe_ix ix_list (pe_ix ix_list (pv 0) pe_int (fun _ _ => rfl)) (pv 3) (fun _ _ => rfl)))))
        pss_nil)
      (pss_cons (ps_if (pt_cmpR op_ge (pv 2) (pe_op op_pow pe_int pe_int) (nomark _))
        (pss_cons (ps_asg (pe_op op_fdivW (pv 2) (pv 1)) (pg_sub (pe_ix ix_list (pv 0) pe_int (fun _ _ => rfl)) (pv 3) set_list))
        (pss_one (ps_ret (pe_op op_mod (pv 2) (pv 1)))))
        pss_nil)
      (pss_one (ps_ret (pe_op op_mod (pe_op op_mod (pe_op op_pow (pe_op op_add (pe_op op_add (pe_op op_mod (pv 2) pe_int) (pe_op op_mul pe_int (pe_ix ix_list (pv 0) pe_int (fun _ _ => rfl)))) pe_int) pe_int) pe_int) (pv 1)))))))))), ?_⟩
    refine ⟨.ref d, rfl, d, _, 1, .int t, rfl, rfl, .inl (.inl hd), rfl, t, 1, rfl, rfl, .ref d, rfl, d, _, 1, 1, rfl, rfl, hd, rfl, ?_⟩
    have hd1 : (upd H d (.lst ([V.ref c, .int t].set 1 (.int (t + 1))))) d = some (.lst [.ref c, .int (t + 1)]) := upd_same
    have hc1 : (upd H d (.lst ([V.ref c, .int t].set 1 (.int (t + 1))))) c = some (.lst (cells.map V.int)) := by
      rw [upd_ne hne]; exact hc
    have k1 : Kept d c H (upd H d (.lst ([V.ref c, .int t].set 1 (.int (t + 1))))) := fun b o h n _ => by
      rw [upd_ne n]; exact h
    generalize upd H d (.lst ([V.ref c, .int t].set 1 (.int (t + 1)))) = H1 at hd1 hc1 k1 ⊢
    have D1 : Deck H1 d c (t + 1) := ⟨hd1, ⟨cells, hc1, hp, hl⟩, hne, by omega⟩
    refine ⟨1, rfl, .ref d, rfl, d, _, 0, .ref c, rfl, rfl, .inl (.inl hd1), rfl, c, _, rfl, .inl (.inl (.inl hc1)), _, 0, rfl, rfl, _, rfl, ite2 (fun e => ?_) (fun e => ?_)⟩
    · have e0 : (0 : Int) < ((cells.map V.int).length : Int) := of_decide_eq_true e
      rw [List.length_map] at e0
      have z0 : 0 ≤ (t + 1) % (cells.length : Int) := Int.emod_nonneg _ (by omega)
      have z1 : (t + 1) % (cells.length : Int) < (cells.length : Int) := Int.emod_lt_of_pos _ e0
      obtain ⟨x, hx, hx2, hx3⟩ := at_int z0 z1
      have x0 := hp x hx
      refine ⟨.ref d, rfl, d, _, 1, .int (t + 1), rfl, rfl, .inl (.inl hd1), rfl, .ref d, rfl, d, _, 0, .ref c, rfl, rfl, .inl (.inl hd1), rfl, c, _, rfl, .inl (.inl (.inl hc1)), t + 1, (cells.length : Int), rfl, by rw [List.length_map], e0, ?_⟩
      refine ⟨.ref d, rfl, d, _, 0, .ref c, rfl, rfl, .inl (.inl hd1), rfl, .int ((t + 1) % (cells.length : Int)), rfl, c, _, _, .int x, rfl, rfl, .inl (.inl hc1), hx3, ?_⟩
      refine ⟨.int x, rfl, 10, 18, rfl, rfl, ⟨by decide, by decide, by decide⟩, _, _, rfl, rfl, _, rfl, ite2 (fun e => ?_) (fun e => ?_)⟩
      · refine ⟨.int x, rfl, .int m, rfl, x, m, rfl, rfl, ⟨hm0, wide_m hm0 hm1⟩, .ref d, rfl, d, _, 0, .ref c, rfl, rfl, .inl (.inl hd1), rfl, .int ((t + 1) % (cells.length : Int)), rfl, c, _, _, _, rfl, rfl, hc1, ix_nat z0 (by rw [List.length_map]; exact z1), ?_⟩
        refine ⟨.int x, rfl, .int m, rfl, x, m, rfl, rfl, hm0, q _ _ (k1.trans fun b o h _ n => ?_) ⟨?_, ⟨cells.set ((t + 1) % (cells.length : Int)).toNat (x / m), ?_, fun y hy => ?_, ?_⟩, hne, by omega⟩ (Int.emod_nonneg _ (by omega)) (Int.emod_lt_of_pos _ hm0)⟩
        · rw [upd_ne n]; exact h
        · rw [upd_ne (Ne.symm hne)]; exact hd1
        · rw [upd_same, List.map_set]
        · rcases List.mem_or_eq_of_mem_set hy with h | h
          · exact hp y h
          · rw [h]; exact Int.ediv_nonneg x0 (by omega)
        · rw [List.length_set]; exact hl
      · refine ⟨.int x, rfl, x, 2147483587, rfl, rfl, (show (0 : Int) < 2147483587 by decide), .ref d, rfl, d, _, 1, .int (t + 1), rfl, rfl, .inl (.inl hd1), rfl, 7919, t + 1, rfl, rfl, .inl ⟨by decide, by decide⟩, _, _, rfl, rfl, _, 1, rfl, rfl, _, 5, rfl, rfl, ⟨by decide, by decide, ?_⟩, _, 2147483647, rfl, rfl, (show (0 : Int) < 2147483647 by decide), .int m, rfl, _, m, rfl, rfl, hm0, q _ _ k1 D1 (Int.emod_nonneg _ (by omega)) (Int.emod_lt_of_pos _ hm0)⟩
        have := Int.emod_lt_of_pos x (show (0 : Int) < 2147483587 by decide)
        have := Int.emod_nonneg x (show (2147483587 : Int) ≠ 0 by decide)
        omega
    · refine ⟨.int 0, rfl, 10, 18, rfl, rfl, ⟨by decide, by decide, by decide⟩, _, _, rfl, rfl, _, rfl, ite2 (fun e => absurd (of_decide_eq_true e) (by decide)) (fun e => ?_)⟩
      refine ⟨.int 0, rfl, 0, 2147483587, rfl, rfl, (show (0 : Int) < 2147483587 by decide), .ref d, rfl, d, _, 1, .int (t + 1), rfl, rfl, .inl (.inl hd1), rfl, 7919, t + 1, rfl, rfl, .inl ⟨by decide, by decide⟩, _, _, rfl, rfl, _, 1, rfl, rfl, _, 5, rfl, rfl, ⟨by decide, by decide, ?_⟩, _, 2147483647, rfl, rfl, (show (0 : Int) < 2147483647 by decide), .int m, rfl, _, m, rfl, rfl, hm0, q _ _ k1 D1 (Int.emod_nonneg _ (by omega)) (Int.emod_lt_of_pos _ hm0)⟩
      omega
end
end OC
set_option Elab.async false
set_option linter.all false
set_option maxRecDepth 100000
set_option maxHeartbeats 4000000
namespace OC
open PySem PySem.Spec PyProof.Rows L2
section
variable {P : Program} {w : World} {K : PySem.W.Frag} {mg : Str → Option Value} {base : Heap}
def sp_lleft (K : PySem.W.Frag) : Sp := fun vs H Q _ => ∃ (a b : Addr) (ws : List V) (room : List (List Int)) (r : List Int) (p : Int) (n : Nat), vs = [.int p, .ref a, .ref b] ∧ (SqL K H a ws ∨ SqT K H a ws) ∧ DpAll K H ws (room.map rowD) ∧ SqT K H b (r.map V.int) ∧ RowsOk p n room ∧ (∀ c ∈ room, fpR c < n) ∧ RowsOk p n [r] ∧ 0 < p ∧ p ≤ 1000 ∧ n ≤ 100 ∧ room.length ≤ 100 ∧
  ∀ H' l, Same H H' → H' l = some (.tup ((leftR p room r).map V.int)) → Q (.ref l) H'
theorem sql_same3 {K : PySem.W.Frag} {H H' : Hp} {a : Addr} {xs : List V} (e : Same H H') (h : SqL K H a xs) : SqL K H' a xs := by
  rcases h with (h | ⟨o, h⟩) | h
  · exact .inl (.inl (e _ _ h))
  · exact .inl (.inr ⟨o, e _ _ h⟩)
  · exact .inr h
theorem left_ok {p : Int} (hp : 0 < p) {n : Nat} : ∀ (room : List (List Int)) (r : List Int), RowsOk p n room → RowsOk p n [r] → RowsOk p n [leftR p room r]
  | [], _, _, h => h
  | c :: room, r, h1, h2 => left_ok hp room (lessR p r c (fpR c)) (fun x hx => h1 x (List.mem_cons_of_mem _ hx)) (rowsOk_one (less_row hp (h2 r List.mem_cons_self).1 (h1 c List.mem_cons_self).1 _))
theorem less_at {p : Int} {x y : List Int} {j k n : Nat} (hx : x.length = n) (hy : y.length = n) (hk : k < n) : (lessR p x y j).take (k + 1) = (lessR p x y j).take k ++ [(x.getD k 0 - x.getD j 0 * y.getD k 0) % p] := by
  have g : (lessR p x y j)[k]? = some ((x.getD k 0 - x.getD j 0 * y.getD k 0) % p) := by
    unfold lessR
    rw [List.getElem?_zipWith, List.getElem?_eq_getElem (l := x) (by omega), List.getElem?_eq_getElem (l := y) (by omega), gd_lt (r := x) (i := k) (by omega), gd_lt (r := y) (i := k) (by omega)]
  rw [List.take_add_one, g]
  rfl
theorem ok__law_left (T : Top K mg) : Ok P w K mg base 1 "_law_left" ["_law_p", "_law_room", "_law_row_here"] (sp_lleft K) := by
  refine T.d__law_left.ok sc__law_left (fun vs H Q E h => ?_) (fun f cdv A outer s H vs Q E hr h => ?_)
  · obtain ⟨a, b, ws, room, r, p, n, rfl, _⟩ := h
    rfl
  · obtain ⟨a, b, ws, room, r, p, n, rfl, hA, hR, hB, ok, fp, okr, hp, hp2, hn, lr, q⟩ := h
    have okr' := okr r List.mem_cons_self
    have lw := rows_len hR
    refine ⟨_, ((pss_cons (ps_set (i := 3) sc__law_left.nd rfl (.inr rfl) (pe_callTy call_list_of (by rfl) T.b_list (by decide +kernel) (pa_cons (pv 2) pa_nil)))
      (pss_cons (ps_for PassesOwn.never (by rfl) (pi_seqv 1 (pv 1)) (pg_name (i := 4) sc__law_left.nd rfl (.inr rfl))
        (pss_cons (ps_set (i := 6) sc__law_left.nd rfl (.inl rfl) (pe_ix ix_list (pe_lc (own := [("_law_k", 5)]) (g := gName 5) (by rfl) sc__law_left.nd (pi_range1 (by rfl) T.b_range (pa_cons (pe_callB call_len_seq (by rfl) T.b_len (by decide +kernel) (pa_cons (pv 4) pa_nil)) pa_nil)) (blkOk_by (own := [("_law_k", 5)]) (N := N__law_left) (sc := defScope s__law_left) (by decide +kernel)) (fun _ _ _ _ _ => (pg_name (i := 5) sc__law_left.nd rfl (.inl rfl))) (fun _ _ _ _ _ => (pts_one (pt_cmpR op_gt (pe_ix (show IxR _ (rIxT K) from ix_tup) (pv 4) (pv 5) (fun _ _ => rfl)) pe_int (nomark _)))) (fun _ _ _ _ _ => (pv 5))) pe_int (fun _ _ => rfl)))
        (pss_cons (ps_set (i := 7) sc__law_left.nd rfl (.inr rfl) (pe_ix ix_list (pv 3) (pv 6) (fun _ _ => rfl)))
        (pss_one (ps_set (i := 3) sc__law_left.nd rfl (.inr rfl) (pe_lc (own := [("_law_k", 5)]) (g := gName 5) (by rfl) sc__law_left.nd (pi_range1 (by rfl) T.b_range (pa_cons (pe_callB call_len_seq (by rfl) T.b_len (by decide +kernel) (pa_cons (pv 4) pa_nil)) pa_nil)) (blkOk_by (own := [("_law_k", 5)]) (N := N__law_left) (sc := defScope s__law_left) (by decide +kernel)) (fun _ _ _ _ _ => (pg_name (i := 5) sc__law_left.nd rfl (.inl rfl))) (fun _ _ _ _ _ => pts_nil) (fun _ _ _ _ _ => (pe_op op_mod (pe_op op_sub (pe_ix (show IxR _ (rIxL K) from ix_list) (pv 3) (pv 5) (fun _ _ => rfl)) (pe_op op_mul (pv 7) (pe_ix (show IxR _ (rIxT K) from ix_tup) (pv 4) (pv 5) (fun _ _ => rfl)))) (pv 0)))))))))
      (pss_one (ps_ret (pe_callTy call_tuple_of (by rfl) T.b_tuple (by decide +kernel) (pa_cons (pv 3) pa_nil))))))), ?_⟩
    refine ⟨.ref b, rfl, b, _, rfl, .inr hB, fun l0 n0 => ?_⟩
    generalize h1 : upd H l0 _ = H1
    obtain ⟨s1, e1⟩ := new_of h1 n0
    have hq : (∀ H', Same H1 H' → SqL K H' a ws) ∨ (∀ H', Same H1 H' → SqT K H' a ws) := by
      rcases hA with h | h
      · exact .inl fun H' k => sql_same3 (s1.trans k) h
      · exact .inr fun H' k => Same.tup (s1.trans k) h
    refine ⟨a, ws, fun H' => Same H1 H', rfl, Same.refl _, hq, fun J wk => for_it wk (fun i σ H' => Same H1 H' ∧ ∃ (l : Addr) (y4 y5 y6 y7 : Option V), H' l = some (.lst ((leftR p (room.take i) r).map V.int)) ∧ σ = [some (.int p), some (.ref a), some (.ref b), some (.ref l), y4, y5, y6, y7]) ⟨Same.refl _, l0, none, none, none, none, e1, rfl⟩ (fun i σ H' _ hW => hW.1) (fun i x σ H2' H2 hi hW hY => ?_) (fun σ H2 hW => ?_)⟩
    · obtain ⟨rfl, hx⟩ := hY
      obtain ⟨s2, l, y4, y5, y6, y7, el, rfl⟩ := hW
      obtain ⟨c, rr, rfl, gr, mr, hc⟩ := dpAll_row (dpAll_same (s1.trans s2) _ _ hR) hx
      have okc := ok rr mr
      have fc := fp rr mr
      have okl := left_ok hp (room.take i) r (fun x hx => ok x (List.mem_of_mem_take hx)) okr _ List.mem_cons_self
      have lt := left_take (p := p) (r := r) gr
      generalize leftR p (room.take i) r = cur at el okl lt
      refine ⟨.ref c, rfl, c, _, rfl, .inr hc, _, rfl, by omega, by rw [List.length_map]; omega, fun D nD => ?_⟩
      rw [List.length_map, show ((rr.length : Int)).toNat = rr.length from rfl]
      refine lc_range (lo := 0) (n := rr.length) (fun k H3 => Same H2 H3 ∧ H3 D = some (.lst ((posR rr k).map fun (i : Nat) => V.int (i : Int)))) ⟨same_upd nD, upd_same⟩ (fun k H3 hk hP => ?_) (fun H3 hP => ?_)
      · obtain ⟨s3, eD⟩ := hP
        refine ⟨rfl, .ref c, rfl, .int (0 + k), rfl, c, _, _, _, rfl, rfl, Same.tup s3 hc, by rw [show (0 : Int) + (k : Int) = (k : Int) by omega]; exact at_row hk, _, 0, rfl, rfl, _, rfl, ?_⟩
        have lp : (posR rr k).length ≤ k := by
          have := List.length_filter_le (fun i => decide (rr.getD i 0 > 0)) (List.range k)
          rw [List.length_range] at this
          exact this
        by_cases h0 : rr.getD k 0 > 0
        · rw [decide_eq_true h0]
          refine iteT ⟨.int (0 + k), rfl, _, eD, by rw [List.length_map]; exact small1000 (by omega), same_mut s3 nD, ?_⟩
          rw [upd_same, posR_succ, if_pos h0, List.map_append, show (0 : Int) + (k : Int) = (k : Int) by omega]
          rfl
        · rw [decide_eq_false h0]
          refine iteF ⟨s3, ?_⟩
          rw [eD, posR_succ, if_neg h0, List.append_nil]
      · obtain ⟨s3, eD⟩ := hP
        rw [posR_nz okc.2 hp] at eD
        refine ⟨D, _, 0, .int (fpR rr), rfl, rfl, .inl (.inl eD), at_of (j := 0) rfl (by rw [List.getElem?_map, nzs_head (by rw [okc.1]; exact fc)]; rfl), ?_⟩
        have el3 := s3 _ _ el
        have hc3 := Same.tup s3 hc
        refine ⟨.ref l, rfl, .int (fpR rr), rfl, l, _, _, _, rfl, rfl, .inl (.inl el3), at_row (by rw [okl.1]; exact fc), ?_⟩
        refine ⟨.ref c, rfl, c, _, rfl, .inr hc3, _, rfl, by omega, by rw [List.length_map]; omega, fun D2 nD2 => ?_⟩
        rw [List.length_map, show ((rr.length : Int)).toNat = rr.length from rfl]
        refine lc_range (lo := 0) (n := rr.length) (fun k H4 => Same H3 H4 ∧ H4 D2 = some (.lst (((lessR p cur rr (fpR rr)).take k).map V.int))) ⟨same_upd nD2, upd_same⟩ (fun k H4 hk hP => ?_) (fun H4 hP => ?_)
        · obtain ⟨s4, eD2⟩ := hP
          have b1 := getD_lt hp okl.2 k
          have b2 := getD_lt hp okl.2 (fpR rr)
          refine ⟨rfl, .ref l, rfl, .int (0 + k), rfl, l, _, _, _, rfl, rfl, .inl (.inl (s4 _ _ el3)), by rw [show (0 : Int) + (k : Int) = (k : Int) by omega]; exact at_row (by omega), .int (cur.getD (fpR rr) 0), rfl, .ref c, rfl, .int (0 + k), rfl, c, _, _, _, rfl, rfl, Same.tup s4 hc3, by rw [show (0 : Int) + (k : Int) = (k : Int) by omega]; exact at_row hk, _, _, rfl, rfl, .inl ⟨by omega, by omega⟩, _, _, rfl, rfl, .int p, rfl, _, p, rfl, rfl, hp, _, eD2, ?_, same_mut s4 nD2, ?_⟩
          · rw [List.length_map, List.length_take]
            exact Nat.lt_of_le_of_lt (Nat.min_le_left _ _) (small1000 (by omega))
          · rw [upd_same, less_at okl.1 okc.1 (by omega), List.map_append]
            rfl
        · obtain ⟨s4, eD2⟩ := hP
          rw [List.take_of_length_le (by unfold lessR; rw [List.length_zipWith]; omega), ← lt] at eD2
          exact ⟨(s2.trans s3).trans s4, D2, _, _, _, _, eD2, rfl⟩
    · obtain ⟨s2, l, y4, y5, y6, y7, el, rfl⟩ := hW
      rw [List.take_of_length_le (by omega)] at el
      refine ⟨.ref l, rfl, l, _, rfl, .inl ⟨.inl (.inl el), fun z nz => ?_⟩⟩
      generalize h5 : upd H2 z _ = H5
      obtain ⟨s5, e5⟩ := new_of h5 nz
      exact q H5 z ((s1.trans s2).trans s5) e5
def sp_lplain (K : PySem.W.Frag) : Sp := fun vs H Q _ => ∃ (a : Addr) (ws : List V) (rs : List (List Int)) (p : Int) (n : Nat), vs = [.int p, .ref a] ∧ (SqL K H a ws ∨ SqT K H a ws) ∧ DpAll K H ws (rs.map rowD) ∧ RowsOk p n rs ∧ Fld p ∧ p ≤ 1000 ∧ 1 ≤ n ∧ n ≤ 100 ∧ rs.length ≤ 100 ∧
  ∀ H' l, Same H H' → RowsAt K H' l (plainR p n rs) → Q (.ref l) H'
theorem ok__law_plain (T : Top K mg) : Ok P w K mg base 2 "_law_plain" ["_law_p", "_law_rows"] (sp_lplain K) := by
  have O__law_left := ok__law_left (P := P) (w := w) (base := base) T
  refine T.d__law_plain.ok sc__law_plain (fun vs H Q E h => ?_) (fun f cdv A outer s H vs Q E hr h => ?_)
  · obtain ⟨a, ws, rs, p, n, rfl, _⟩ := h
    rfl
  · obtain ⟨a, ws, rs, p, n, rfl, hA, hR, ok, hF, hp, n1, hn, lr, q⟩ := h
    have h2 := hF.1
    have lw := rows_len hR
    refine ⟨_, ((pss_cons (ps_set (i := 2) sc__law_plain.nd rfl (.inl rfl) (pe_lst pa_nil))
      (pss_cons (ps_for PassesOwn.never (by rfl) (pi_seqv 1 (pv 1)) (pg_name (i := 3) sc__law_plain.nd rfl (.inr rfl))
        (pss_cons (ps_set (i := 3) sc__law_plain.nd rfl (.inr rfl) (pe_callO O__law_left (hr.mono (by omega)) (by rfl) (pa_cons (pv 0) (pa_cons (pv 2) (pa_cons (pv 3) pa_nil)))))
        (pss_cons (ps_set (i := 5) sc__law_plain.nd rfl (.inr rfl) (pe_lc (own := [("_law_k", 4)]) (g := gName 4) (by rfl) sc__law_plain.nd (pi_range1 (by rfl) T.b_range (pa_cons (pe_callB call_len_seq (by rfl) T.b_len (by decide +kernel) (pa_cons (pv 3) pa_nil)) pa_nil)) (blkOk_by (own := [("_law_k", 4)]) (N := N__law_plain) (sc := defScope s__law_plain) (by decide +kernel)) (fun _ _ _ _ _ => (pg_name (i := 4) sc__law_plain.nd rfl (.inl rfl))) (fun _ _ _ _ _ => (pts_one (pt_cmpR op_gt (pe_ix (show IxR _ (rIxT K) from ix_tup) (pv 3) (pv 4) (fun _ _ => rfl)) pe_int (nomark _)))) (fun _ _ _ _ _ => (pv 4))))
        (pss_one (ps_if (pt_cmpR (op_neNil hr.units) (pv 5) (pe_lst pa_nil) (nomark _))
          (pss_cons (ps_set (i := 6) sc__law_plain.nd rfl (.inr rfl) (pe_ix ix_list (pe_lc (own := [("_law_k", 4)]) (g := gName 4) (by rfl) sc__law_plain.nd (pi_range1 (by rfl) T.b_range (pa_cons (pv 0) pa_nil)) (blkOk_by (own := [("_law_k", 4)]) (N := N__law_plain) (sc := defScope s__law_plain) (by decide +kernel)) (fun _ _ _ _ _ => (pg_name (i := 4) sc__law_plain.nd rfl (.inl rfl))) (fun _ _ _ _ _ => (pts_one (pt_cmpR op_eq (pe_op op_mod (pe_op op_mul (pv 4) (pe_ix (show IxR _ (rIxT K) from ix_tup) (pv 3) (pe_ix (show IxR _ (rIxL K) from ix_list) (pv 5) pe_int (fun _ _ => rfl)) (fun _ _ => rfl))) (pv 0)) pe_int (nomark _)))) (fun _ _ _ _ _ => (pv 4))) pe_int (fun _ _ => rfl)))
          (pss_cons (ps_set (i := 8) sc__law_plain.nd rfl (.inr rfl) (pe_callTy call_tuple_of (by rfl) T.b_tuple (by decide +kernel) (pa_cons (pe_lc (own := [("_law_rest", 7)]) (g := gName 7) (by rfl) sc__law_plain.nd (pi_tup (pv 3)) (blkOk_by (own := [("_law_rest", 7)]) (N := N__law_plain) (sc := defScope s__law_plain) (by decide +kernel)) (fun _ _ _ _ _ => (pg_name (i := 7) sc__law_plain.nd rfl (.inl rfl))) (fun _ _ _ _ _ => pts_nil) (fun _ _ _ _ _ => (pe_op op_mod (pe_op op_mul (pv 7) (pv 6)) (pv 0)))) pa_nil)))
          (pss_one (ps_set (i := 2) sc__law_plain.nd rfl (.inl rfl) (pe_op op_cat (pe_lc (own := [("_law_one", 9)]) (g := gName 9) (by rfl) sc__law_plain.nd (pi_list (pv 2)) (blkOk_by (own := [("_law_one", 9)]) (N := N__law_plain) (sc := defScope s__law_plain) (by decide +kernel)) (fun _ _ _ _ _ => (pg_name (i := 9) sc__law_plain.nd rfl (.inl rfl))) (fun _ _ _ _ _ => pts_nil) (fun _ _ _ _ _ => (pe_callO O__law_left (hr.mono (by omega)) (by rfl) (pa_cons (pv 0) (pa_cons (pe_lst (pa_cons (pv 8) pa_nil)) (pa_cons (pv 9) pa_nil)))))) (pe_lst (pa_cons (pv 8) pa_nil)))))))
          pss_nil)))))
      (pss_one (ps_ret (pe_callTy call_tuple_of (by rfl) T.b_tuple (by decide +kernel) (pa_cons (pe_callBK cr_sortTR (by rfl) T.b_sorted (by decide +kernel) (pa_cons (pv 2) pa_nil) (pk_cons pe_bl pk_nil)) pa_nil))))))), ?_⟩
    refine ⟨Nat.zero_le _, fun L0' nL0 => ?_⟩
    generalize h1 : upd H L0' _ = H1
    obtain ⟨s1, e1⟩ := new_of h1 nL0
    have hq : (∀ H', Same H1 H' → SqL K H' a ws) ∨ (∀ H', Same H1 H' → SqT K H' a ws) := by
      rcases hA with h | h
      · exact .inl fun H' k => sql_same3 (s1.trans k) h
      · exact .inr fun H' k => Same.tup (s1.trans k) h
    refine ⟨a, ws, fun H' => Same H1 H', rfl, Same.refl _, hq, fun J wk => for_it wk (fun i σ H' => Same H1 H' ∧ ∃ (L : Addr) (vs' : List V) (fs : List (List Int)) (y3 y4 y5 y6 y7 y8 y9 : Option V), H' L = some (.lst vs') ∧ DpAll K H' vs' (fs.map rowD) ∧ fs.Perm (plainR p n (rs.take i)) ∧ σ = [some (.int p), some (.ref a), some (.ref L), y3, y4, y5, y6, y7, y8, y9]) ⟨Same.refl _, L0', [], [], none, none, none, none, none, none, none, e1, .nil, by rw [List.take_zero, (PFR.nil hF n).2], rfl⟩ (fun i σ H' _ hW => hW.1) (fun i x σ H2' H2 hi hW hY => ?_) (fun σ H2 hW => ?_)⟩
    · obtain ⟨rfl, hx⟩ := hY
      obtain ⟨s2, L, vs', fs, y3, y4, y5, y6, y7, y8, y9, eL, dL, pm, rfl⟩ := hW
      obtain ⟨c, r, rfl, gr, mr, hc⟩ := dpAll_row (dpAll_same (s1.trans s2) _ _ hR) hx
      have okt : RowsOk p n (rs.take i) := fun x hx => ok x (List.mem_of_mem_take hx)
      have pf := PFR.of_plain hF okt
      have okr := rowsOk_one (ok r mr)
      have tk : rs.take (i + 1) = rs.take i ++ [r] := by
        rw [List.take_add_one, gr]
        rfl
      have pe : plainR p n (rs.take (i + 1)) = plainR p n (plainR p n (rs.take i) ++ [r]) := by
        rw [tk, plainR_app hF okt okr]
      rw [pe]
      have lroom := plainR_lenle hF okt
      generalize plainR p n (rs.take i) = room at pm pf lroom
      have okfs : RowsOk p n fs := fun x hx => pf.1 x (pm.mem_iff.mp hx)
      have lfs : fs.length ≤ n := by rw [pm.length_eq]; exact lroom
      have lvs := rows_len dL
      refine ⟨.int p, rfl, .ref L, rfl, .ref c, rfl, L, c, vs', fs, r, p, n, rfl, .inl (.inl (.inl eL)), dL, hc, okfs, fun x hx => pf.fp_lt hF x (pm.mem_iff.mp hx), okr, by omega, hp, hn, by omega, fun H3 l3 s3 e3 => ?_⟩
      rw [PFR.left_any hF pf pm okr] at e3
      have oky := PFR.left_ok hF pf okr _ List.mem_cons_self
      have stp := PFR.step (found := fs) hF pf pm okr
      have wid0 := pf.widen0 hF okr
      generalize leftR p room r = y at e3 oky stp wid0
      have hy3 : SqT K H3 l3 (y.map V.int) := .inl (.inl e3)
      -- its places
      refine ⟨.ref l3, rfl, l3, _, rfl, .inr hy3, _, rfl, by omega, by rw [List.length_map]; omega, fun D nD => ?_⟩
      rw [List.length_map, show ((y.length : Int)).toNat = y.length from rfl]
      refine lc_range (lo := 0) (n := y.length) (fun k H4 => Same H3 H4 ∧ H4 D = some (.lst ((posR y k).map fun (i : Nat) => V.int (i : Int)))) ⟨same_upd nD, upd_same⟩ (fun k H4 hk hP => ?_) (fun H4 hP => ?_)
      · obtain ⟨s4, eD⟩ := hP
        refine ⟨rfl, .ref l3, rfl, .int (0 + k), rfl, l3, _, _, _, rfl, rfl, Same.tup s4 hy3, by rw [show (0 : Int) + (k : Int) = (k : Int) by omega]; exact at_row hk, _, 0, rfl, rfl, _, rfl, ?_⟩
        have lp : (posR y k).length ≤ k := by
          have := List.length_filter_le (fun i => decide (y.getD i 0 > 0)) (List.range k)
          rw [List.length_range] at this
          exact this
        by_cases h0 : y.getD k 0 > 0
        · rw [decide_eq_true h0]
          refine iteT ⟨.int (0 + k), rfl, _, eD, by rw [List.length_map]; exact small1000 (by omega), same_mut s4 nD, ?_⟩
          rw [upd_same, posR_succ, if_pos h0, List.map_append, show (0 : Int) + (k : Int) = (k : Int) by omega]
          rfl
        · rw [decide_eq_false h0]
          refine iteF ⟨s4, ?_⟩
          rw [eD, posR_succ, if_neg h0, List.append_nil]
      obtain ⟨s4, eD⟩ := hP
      rw [posR_nz oky.2 (by omega)] at eD
      refine ⟨.ref D, rfl, Nat.zero_le _, fun z5 nz5 => ?_⟩
      generalize h5 : upd H4 z5 _ = H5
      obtain ⟨s5, e5⟩ := new_of h5 nz5
      have eD5 := s5 _ _ eD
      refine ⟨D, z5, _, rfl, rfl, eD5, e5, _, rfl, ?_⟩
      have s25 := (s3.trans s4).trans s5
      have hy5 := Same.tup (s4.trans s5) hy3
      by_cases hlt : fpR y < n
      · have hd := nzs_head (r := y) (by rw [oky.1]; exact hlt)
        have hne : ((nzsR y y.length).map fun (i : Nat) => V.int (i : Int)).isEmpty = false := by
          cases hz : nzsR y y.length with
          | nil => rw [hz] at hd; cases hd
          | cons _ _ => rfl
        rw [hne]
        refine iteT ?_
        have stp := stp hlt
        have b := getD_lt (p := p) (by omega) oky.2 (fpR y)
        have nz : y.getD (fpR y) 0 ≠ 0 := fpR_at (by rw [oky.1]; exact hlt)
        have hc1 := ctr_first0 hF (show 1 ≤ y.getD (fpR y) 0 by omega) b.2
        have hco := ctr_ok hF (show 1 ≤ y.getD (fpR y) 0 by omega) b.2
        have oko := own_row (p := p) (by omega) oky.1 (fpR y)
        have ff := own_first hF oky hlt
        refine ⟨.int p, rfl, p, rfl, by omega, by omega, fun D2 nD2 => ?_⟩
        refine lc_range (lo := 0) (n := p.toNat) (fun k H6 => Same H5 H6 ∧ H6 D2 = some (.lst ((((List.range k).map fun (i : Nat) => ((i : Nat) : Int)).filter fun k => decide (k * y.getD (fpR y) 0 % p = 1)).map V.int))) ⟨same_upd nD2, upd_same⟩ (fun k H6 hk hP => ?_) (fun H6 hP => ?_)
        · obtain ⟨s6, eD2⟩ := hP
          refine ⟨rfl, .int (0 + k), rfl, .ref l3, rfl, .ref D, rfl, D, _, 0, .int (fpR y), rfl, rfl, .inl (.inl (s6 _ _ eD5)), at_of (j := 0) rfl (by rw [List.getElem?_map, hd]; rfl), l3, _, _, _, rfl, rfl, Same.tup s6 hy5, at_row (by rw [oky.1]; exact hlt), _, _, rfl, rfl, .inr ⟨by omega, by omega⟩, .int p, rfl, _, p, rfl, rfl, by omega, rfl, _, rfl, ?_⟩
          rw [show (0 : Int) + (k : Int) = (k : Int) by omega]
          have ek : decide (V.int ((k : Int) * y.getD (fpR y) 0 % p) = V.int 1) = decide ((k : Int) * y.getD (fpR y) 0 % p = 1) := decide_eq_decide.mpr ⟨fun z => V.int.inj z, fun z => by rw [z]⟩
          rw [ek]
          have tkk : ((List.range (k + 1)).map fun (i : Nat) => ((i : Nat) : Int)).filter (fun k => decide (k * y.getD (fpR y) 0 % p = 1)) = ((List.range k).map fun (i : Nat) => ((i : Nat) : Int)).filter (fun k => decide (k * y.getD (fpR y) 0 % p = 1)) ++ (if (k : Int) * y.getD (fpR y) 0 % p = 1 then [(k : Int)] else []) := by
            rw [List.range_succ, List.map_append, List.filter_append]
            congr 1
            by_cases h0 : (k : Int) * y.getD (fpR y) 0 % p = 1
            · rw [if_pos h0]
              exact List.filter_cons_of_pos (decide_eq_true h0)
            · rw [if_neg h0]
              exact List.filter_cons_of_neg (by rw [decide_eq_false h0]; decide)
          have lk : (((List.range k).map fun (i : Nat) => ((i : Nat) : Int)).filter fun k => decide (k * y.getD (fpR y) 0 % p = 1)).length ≤ k := by
            have := List.length_filter_le (fun k : Int => decide (k * y.getD (fpR y) 0 % p = 1)) ((List.range k).map fun (i : Nat) => ((i : Nat) : Int))
            rwa [List.length_map, List.length_range] at this
          by_cases h0 : (k : Int) * y.getD (fpR y) 0 % p = 1
          · rw [decide_eq_true h0]
            refine iteT ⟨.int k, rfl, _, eD2, by rw [List.length_map]; exact small1000 (by omega), same_mut s6 nD2, ?_⟩
            rw [upd_same, tkk, if_pos h0, List.map_append]
            rfl
          · rw [decide_eq_false h0]
            refine iteF ⟨s6, ?_⟩
            rw [eD2, tkk, if_neg h0, List.append_nil]
        obtain ⟨s6, eD2⟩ := hP
        refine ⟨D2, _, 0, .int (ctr p (y.getD (fpR y) 0)), rfl, rfl, .inl (.inl eD2), at_of (j := 0) rfl (by rw [List.getElem?_map, hc1]; rfl), ?_⟩
        have hy6 := Same.tup s6 hy5
        generalize hct : ctr p (y.getD (fpR y) 0) = ct at hco
        refine ⟨.ref l3, rfl, l3, rfl, ⟨_, hy6⟩, lc_tupI (fun x => x * ct % p) hy6 (by omega) (fun _ => rfl) (fun x H' Q' mx sm hQ => ?_) (fun D3 H7 s7 nD3 eD3 => ?_)⟩
        · exact ⟨.int x, rfl, .int ct, rfl, x, ct, rfl, rfl, .inr ⟨by omega, by omega⟩, .int p, rfl, _, p, rfl, rfl, by omega, hQ⟩
        refine ⟨D3, _, rfl, .inl ⟨.inl (.inl eD3), fun lo nlo => ?_⟩⟩
        generalize h8 : upd H7 lo _ = H8
        obtain ⟨s8, e8⟩ := new_of h8 nlo
        have eo : y.map (fun x => x * ct % p) = ownR p y (fpR y) := by
          unfold ownR
          rw [hct]
          refine List.map_congr_left fun x _ => ?_
          rw [Int.mul_comm]
        rw [eo] at e8
        generalize ownR p y (fpR y) = own at e8 stp oko ff
        have s28 := (s25.trans s6).trans (s7.trans s8)
        have eL8 := s28 _ _ eL
        have dL8 := dpAll_same s28 _ _ dL
        refine ⟨.ref L, rfl, L, rfl, ⟨_, .inl (.inl eL8)⟩, lc_mapR (K := K) (fun e => rowD (lessR p (intsOf e) own (fpR own))) (walk_list (K := K) (a := L) (xs := vs')) (fun H' s => .inl (.inl (s _ _ eL8))) (rep_rows dL8) (by omega) (fun _ => rfl) (fun v e H' Q' me rv sm hQ => ?_) (fun D4 H9 w9 s9 nD4 eD4 r9 => ?_)⟩
        · obtain ⟨x, mx, rfl⟩ := List.mem_map.mp me
          obtain ⟨c', rfl, hc'⟩ := rep_row rv
          rw [ints_row] at hQ
          refine ⟨.int p, rfl, .ref lo, rfl, sz1000 (by decide : (1 : Nat) ≤ 1000), fun u nu => ?_⟩
          generalize h10 : upd H' u _ = H10
          obtain ⟨s10, e10⟩ := new_of h10 nu
          have eo10 : SqT K H10 lo (own.map V.int) := .inl (.inl (s10 _ _ (sm _ _ e8)))
          exact ⟨.ref c', rfl, u, c', [.ref lo], [own], x, p, n, rfl, .inl (.inl (.inl e10)), .cons (row_dp eo10) .nil, Same.tup s10 hc', rowsOk_one oko, (fun d hd => by
            have : d = own := by simpa using hd
            rw [this, ff]
            exact hlt), rowsOk_one (okfs x mx), by omega, hp, hn, (by show 1 ≤ 100; decide), fun H'' l'' s'' e'' => hQ (.ref l'') H'' (s10.trans s'') (row_rep (.inl (.inl e'')))⟩
        have em : (fs.map rowD).map (fun e => rowD (lessR p (intsOf e) own (fpR own))) = (fs.map fun x => lessR p x own (fpR y)).map rowD := by
          rw [List.map_map, List.map_map]
          refine List.map_congr_left fun x _ => ?_
          show rowD (lessR p (intsOf (rowD x)) own (fpR own)) = rowD (lessR p x own (fpR y))
          rw [ints_row, ff]
        rw [em] at r9
        have d9 := repAll_rows r9
        have l9 := rows_len d9
        rw [List.length_map] at l9
        refine ⟨.ref lo, rfl, sz1000 (by decide : (1 : Nat) ≤ 1000), fun u nu => ?_⟩
        generalize h11 : upd H9 u _ = H11
        obtain ⟨s11, e11⟩ := new_of h11 nu
        refine ⟨D4, u, _, _, rfl, rfl, s11 _ _ eD4, e11, Nat.le_of_lt (small1000 (by simp; omega)), fun N nN => ?_⟩
        generalize h12 : upd H11 N _ = H12
        obtain ⟨s12, e12⟩ := new_of h12 nN
        have s912 := s11.trans s12
        have s812 := s9.trans s912
        refine ⟨(s2.trans s28).trans s812, N, _, (fs.map fun x => lessR p x own (fpR y)) ++ [own], _, _, _, _, _, _, _, e12, ?_, stp, rfl⟩
        rw [List.map_append]
        exact dpAll_append (dpAll_same s912 _ _ d9) (.cons (row_dp (.inl (.inl (s812 _ _ e8)))) .nil)
      · have hz : fpR y = y.length := by
          have := fpR_le y
          omega
        have h0 := fpR_all hz
        have hne : ((nzsR y y.length).map fun (i : Nat) => V.int (i : Int)).isEmpty = true := by
          have : nzsR y y.length = [] := by
            unfold nzsR
            refine List.filter_eq_nil_iff.mpr fun i hi => ?_
            rw [gd_lt (List.mem_range.mp hi), h0 _ (List.getElem_mem _)]
            decide
          rw [this]
          rfl
        rw [hne]
        refine iteF ⟨s2.trans s25, L, vs', fs, _, _, _, _, _, _, _, s25 _ _ eL, dpAll_same s25 _ _ dL, ?_, rfl⟩
        rw [← wid0 h0]
        exact pm
    · obtain ⟨s2, L, vs', fs, y3, y4, y5, y6, y7, y8, y9, eL, dL, pm, rfl⟩ := hW
      rw [List.take_of_length_le (by omega)] at pm
      have pf := PFR.of_plain hF ok
      refine ⟨.ref L, rfl, L, _, n, p, rfl, rfl, n1, .inl (.inl eL), fun x hx => ?_, fun ys S pmv pw nS => ?_⟩
      · obtain ⟨i, hi, rfl⟩ := List.getElem_of_mem hx
        obtain ⟨c, rc, ec, gr, mr, hc⟩ := dpAll_row dL (List.getElem?_eq_getElem hi)
        have := pf.1 rc (pm.mem_iff.mp mr)
        exact ⟨rc, ⟨c, ec, hc⟩, this.1, this.2⟩
      generalize h7 : upd H2 S _ = H7
      obtain ⟨s7, e7⟩ := new_of h7 nS
      obtain ⟨rs', pm', d'⟩ := dpAll_perm pmv dL
      have er := PFR.desc_one hF pf (pm'.trans pm) (dpAll_pw d' pw)
      refine ⟨S, ys, rfl, .inl ⟨.inl (.inl e7), fun R nR => ?_⟩⟩
      generalize h8 : upd H7 R _ = H8
      obtain ⟨s8, e8⟩ := new_of h8 nR
      refine q H8 R (((s1.trans s2).trans s7).trans s8) ⟨ys, .inl (.inl e8), ?_⟩
      rw [← er]
      exact dpAll_same (s7.trans s8) _ _ d'
def sp_lwithin (K : PySem.W.Frag) : Sp := fun vs H Q _ => ∃ (a b : Addr) (ws : List V) (room : List (List Int)) (r : List Int) (p : Int) (n : Nat), vs = [.int p, .ref a, .ref b] ∧ (SqL K H a ws ∨ SqT K H a ws) ∧ DpAll K H ws (room.map rowD) ∧ SqT K H b (r.map V.int) ∧ RowsOk p n room ∧ (∀ c ∈ room, fpR c < n) ∧ RowsOk p n [r] ∧ 0 < p ∧ p ≤ 1000 ∧ 1 ≤ n ∧ n ≤ 100 ∧ room.length ≤ 100 ∧
  ∀ H' (x : Bool), Same H H' → (x = true ↔ ∀ y ∈ leftR p room r, y = 0) → Q (.bl x) H'
theorem ok__law_within (T : Top K mg) : Ok P w K mg base 2 "_law_within" ["_law_p", "_law_room", "_law_row_here"] (sp_lwithin K) := by
  have O__law_left := ok__law_left (P := P) (w := w) (base := base) T
  refine T.d__law_within.ok sc__law_within (fun vs H Q E h => ?_) (fun f cdv A outer s H vs Q E hr h => ?_)
  · obtain ⟨a, b, ws, room, r, p, n, rfl, _⟩ := h
    rfl
  · obtain ⟨a, b, ws, room, r, p, n, rfl, hA, hR, hB, ok, fp, okr, hp, hp2, hn1, hn, lr, q⟩ := h
    have okl := left_ok hp room r ok okr _ List.mem_cons_self
    refine ⟨_, ((pss_one (ps_ret (pe_cmpR op_eq (pe_callB (cr_maxI (by rfl)) (by rfl) T.b_max (by decide +kernel) (pa_cons (pe_callO O__law_left (hr.mono (by omega)) (by rfl) (pa_cons (pv 0) (pa_cons (pv 1) (pa_cons (pv 2) pa_nil)))) pa_nil)) pe_int (nomark _))))), ?_⟩
    refine ⟨.int p, rfl, .ref a, rfl, .ref b, rfl, a, b, ws, room, r, p, n, rfl, hA, hR, hB, ok, fp, okr, hp, hp2, hn, lr, fun H1 l s1 e1 => ?_⟩
    refine ⟨l, _, rfl, .inl (.inl e1), by rw [okl.1]; omega, fun m mm hm => ⟨rfl, ?_⟩⟩
    refine q H1 _ s1 ⟨fun e y hy => ?_, fun h => ?_⟩
    · have e : m = 0 := by
        have := of_decide_eq_true e
        injection this
      have := hm y hy
      have := (okl.2 y hy).1
      omega
    · rw [h m mm]
      rfl
def sp_row3 : Sp := fun vs H Q _ => ∃ (d c : Addr) (t p : Int) (n : Nat), vs = [.ref d, .int p, .int (n : Int)] ∧ Deck H d c t ∧ t ≤ 900000 ∧ 2 ≤ p ∧ p ≤ 1000 ∧ 1 ≤ n ∧ n ≤ 100 ∧ ∀ H' a r t', Kept d c H H' → Deck H' d c t' → t' ≤ t + 2 + 2 * n → H a = none → H' a = some (.tup (r.map V.int)) → RowsOk p n [r] → Q (.ref a) H'
theorem kept_none {d c l : Addr} {t : Int} {H H' : Hp} (D : Deck H' d c t) (k : Kept d c H H') (n : H' l = none) : H l = none := by
  cases hl : H l with
  | none => rfl
  | some o =>
    have bl := D.fresh n
    rw [k l o hl (fun z => bl (.inl z)) (fun z => bl (.inr z))] at n
    cases n
/-- a comprehension of drawn rests -/
theorem lc_drawn {d c : Addr} {t p : Int} {n : Nat} {σ : L2.St} {H : Hp} {Qd : Addr → Hp → Prop} {i : Nat} {sl : List Nat} {te : TE} (D0 : Deck H d c t) (hn : n ≤ 100) (hw : ∀ x : Option V, wipe ((wipe σ sl).set i x) sl = wipe σ sl)
    (hte : ∀ (k : Nat) (t' : Int) (H' : Hp) (Q' : VK), Deck H' d c t' → t' ≤ t + 2 * k → k < n → (∀ H'' t'' x, Kept d c H' H'' → Deck H'' d c t'' → t'' ≤ t' + 2 → 0 ≤ x → x < p → Q' (.int x) H'') → te ((wipe σ sl).set i (some (.int (0 + (k : Int))))) H' Q')
    (hd : ∀ (D : Addr) (H' : Hp) (t' : Int) (r : List Int), Kept d c H H' → Deck H' d c t' → t' ≤ t + 2 * n → H' D = some (.lst (r.map V.int)) → r.length = n → (∀ x ∈ r, 0 ≤ x ∧ x < p) → Qd D H') :
    LcGoal (Itr 0 n) (gName i) tYes te sl σ H Qd := by
  intro D nD
  have bD := D0.fresh nD
  refine lc_range (lo := 0) (n := n) (fun k H' => Kept d c H H' ∧ ∃ (t' : Int) (r : List Int), Deck H' d c t' ∧ t' ≤ t + 2 * k ∧ H' D = some (.lst (r.map V.int)) ∧ r.length = k ∧ ∀ x ∈ r, 0 ≤ x ∧ x < p) ⟨Kept.of (same_upd nD), t, [], D0.same (same_upd nD), by omega, upd_same, rfl, fun x hx => nomatch hx⟩ (fun k H' hk hW => ?_) (fun H' hW => ?_)
  · obtain ⟨k', t', r, D', ht', eB, ln, ro⟩ := hW
    refine ⟨hw _, hte k t' H' _ D' ht' hk fun H1 t1 x k1 D1 ht1 x0 x1 => ?_⟩
    refine ⟨r.map V.int, k1 _ _ eB (fun z => bD (.inl z)) (fun z => bD (.inr z)), by rw [List.length_map]; exact small1000 (by omega), (k'.trans k1).mut nD, t1, r ++ [x], D1.mut bD, by omega, ?_, by rw [List.length_append, ln]; rfl, fun y hy => ?_⟩
    · rw [upd_same, List.map_append]
      rfl
    · rcases List.mem_append.mp hy with h | h
      · exact ro y h
      · have : y = x := by simpa using h
        rw [this]
        exact ⟨x0, x1⟩
  · obtain ⟨k', t', r, D', ht', eB, ln, ro⟩ := hW
    exact hd D H' t' r k' D' ht' eB ln ro
theorem ok__law_row (T : Top K mg) : Ok P w K mg base 2 "_law_row" ["_law_deck_here", "_law_p", "_law_n"] sp_row3 := by
  have O__law_draw := ok__law_draw (P := P) (w := w) (base := base) T
  refine T.d__law_row.ok sc__law_row (fun vs H Q E h => ?_) (fun f cdv A outer s H vs Q E hr h => ?_)
  · obtain ⟨d, c, t, p, n, rfl, _⟩ := h
    rfl
  · obtain ⟨d, c, t, p, n, rfl, D0, ht, hp1, hp2, n1, hn, q⟩ := h
    refine ⟨_, ((pss_cons (ps_set (i := 3) sc__law_row.nd rfl (.inl rfl) (pe_callO O__law_draw (hr.mono (by omega)) (by rfl) (pa_cons (pv 0) (pa_cons pe_int pa_nil))))
      (pss_cons (ps_set (i := 4) sc__law_row.nd rfl (.inr rfl) (pe_callO O__law_draw (hr.mono (by omega)) (by rfl) (pa_cons (pv 0) (pa_cons (pv 2) pa_nil))))
      (pss_cons (ps_if (pt_cmpR op_eq (pv 3) pe_int (nomark _))
        (pss_one (ps_ret (pe_callTy call_tuple_of (by rfl) T.b_tuple (by decide +kernel) (pa_cons (pe_lc (own := [("_law_k", 5)]) (g := gName 5) (by rfl) sc__law_row.nd (pi_range1 (by rfl) T.b_range (pa_cons (pv 2) pa_nil)) (blkOk_by (own := [("_law_k", 5)]) (N := N__law_row) (sc := defScope s__law_row) (by decide +kernel)) (fun _ _ _ _ _ => (pg_name (i := 5) sc__law_row.nd rfl (.inl rfl))) (fun _ _ _ _ _ => pts_nil) (fun _ _ _ _ _ => (pe_callTy call_int1 (by rfl) T.b_int (by decide +kernel) (pa_cons (pe_cmpR op_eq (pv 5) (pv 4) (nomark _)) pa_nil)))) pa_nil))))
        pss_nil)
      (pss_cons (ps_if (pt_cmpR op_eq (pv 3) pe_int (nomark _))
        (pss_one (ps_ret (pe_callTy call_tuple_of (by rfl) T.b_tuple (by decide +kernel) (pa_cons (pe_lc (own := [("_law_k", 5)]) (g := gName 5) (by rfl) sc__law_row.nd (pi_range1 (by rfl) T.b_range (pa_cons (pv 2) pa_nil)) (blkOk_by (own := [("_law_k", 5)]) (N := N__law_row) (sc := defScope s__law_row) (by decide +kernel)) (fun _ _ _ _ _ => (pg_name (i := 5) sc__law_row.nd rfl (.inl rfl))) (fun _ _ _ _ _ => pts_nil) (fun _ _ _ _ _ => (pe_callO O__law_draw (hr.mono (by omega)) (by rfl) (pa_cons (pv 0) (pa_cons pe_int pa_nil))))) pa_nil))))
        pss_nil)
      (pss_cons (ps_if (pt_cmpR op_eq (pv 3) pe_int (nomark _))
        (pss_one (ps_ret (pe_callTy call_tuple_of (by rfl) T.b_tuple (by decide +kernel) (pa_cons (pe_lc (own := [("_law_k", 5)]) (g := gName 5) (by rfl) sc__law_row.nd (pi_range1 (by rfl) T.b_range (pa_cons (pv 2) pa_nil)) (blkOk_by (own := [("_law_k", 5)]) (N := N__law_row) (sc := defScope s__law_row) (by decide +kernel)) (fun _ _ _ _ _ => (pg_name (i := 5) sc__law_row.nd rfl (.inl rfl))) (fun _ _ _ _ _ => pts_nil) (fun _ _ _ _ _ => (pe_op op_mul (pe_callO O__law_draw (hr.mono (by omega)) (by rfl) (pa_cons (pv 0) (pa_cons (pv 1) pa_nil))) (pe_callO O__law_draw (hr.mono (by omega)) (by rfl) (pa_cons (pv 0) (pa_cons pe_int pa_nil)))))) pa_nil))))
        pss_nil)
      (pss_one (ps_ret (pe_callTy call_tuple_of (by rfl) T.b_tuple (by decide +kernel) (pa_cons (pe_lc (own := [("_law_k", 5)]) (g := gName 5) (by rfl) sc__law_row.nd (pi_range1 (by rfl) T.b_range (pa_cons (pv 2) pa_nil)) (blkOk_by (own := [("_law_k", 5)]) (N := N__law_row) (sc := defScope s__law_row) (by decide +kernel)) (fun _ _ _ _ _ => (pg_name (i := 5) sc__law_row.nd rfl (.inl rfl))) (fun _ _ _ _ _ => pts_nil) (fun _ _ _ _ _ => (pe_callO O__law_draw (hr.mono (by omega)) (by rfl) (pa_cons (pv 0) (pa_cons (pv 1) pa_nil))))) pa_nil)))))))))), ?_⟩
    refine ⟨.ref d, rfl, d, c, t, 4, rfl, D0, by omega, by decide, by decide, fun H1 z1 k1 D1 a0 a1 => ?_⟩
    refine ⟨.ref d, rfl, .int n, rfl, d, c, _, n, rfl, D1, by omega, by omega, by omega, fun H2 z2 k2 D2 b0 b1 => ?_⟩
    have k02 := k1.trans k2
    have last : ∀ (D : Addr) (H' : Hp) (t' : Int) (r : List Int), Kept d c H2 H' → Deck H' d c t' → t' ≤ t + 1 + 1 + 2 * n → H' D = some (.lst (r.map V.int)) → r.length = n → (∀ x ∈ r, 0 ≤ x ∧ x < p) → ∀ l, H' l = none → Q (.ref l) (upd H' l (.tup (r.map V.int))) := by
      intro D H' t' r k' D' ht' eB ln ro l nl
      have s2 := same_upd (o := .tup (r.map V.int)) nl
      exact q _ l r t' (k02.trans (k'.trans (Kept.of s2))) (D'.same s2) (by omega) (kept_none D' (k02.trans k') nl) upd_same (rowsOk_one ⟨ln, ro⟩)
    refine ⟨.int z1, rfl, rfl, _, rfl, ite2 (fun _ => ?_) (fun _ => ?_)⟩
    · refine ⟨.int n, rfl, n, rfl, by omega, by omega, lc_drawn (p := p) (t := t + 1 + 1) D2 hn (fun _ => rfl) (fun k t' H' Q' D' ht' hk hQ => ?_) (fun D H' t' r k' D' ht' eB ln ro => ⟨D, _, rfl, .inl ⟨.inl (.inl eB), last D H' t' r k' D' ht' eB ln ro⟩⟩)⟩
      refine ⟨.int (0 + k), rfl, .int z2, rfl, rfl, .inr ⟨_, rfl, ?_⟩⟩
      by_cases e : V.int (0 + (k : Int)) = V.int z2
      · rw [decide_eq_true e]
        exact hQ H' t' 1 (Kept.refl _ _ _) D' (by omega) (by omega) (by omega)
      · rw [decide_eq_false e]
        exact hQ H' t' 0 (Kept.refl _ _ _) D' (by omega) (by omega) (by omega)
    refine ⟨.int z1, rfl, rfl, _, rfl, ite2 (fun _ => ?_) (fun _ => ?_)⟩
    · refine ⟨.int n, rfl, n, rfl, by omega, by omega, lc_drawn (p := p) (t := t + 1 + 1) D2 hn (fun _ => rfl) (fun k t' H' Q' D' ht' hk hQ => ?_) (fun D H' t' r k' D' ht' eB ln ro => ⟨D, _, rfl, .inl ⟨.inl (.inl eB), last D H' t' r k' D' ht' eB ln ro⟩⟩)⟩
      exact ⟨.ref d, rfl, d, c, t', 2, rfl, D', by omega, by decide, by decide, fun H3 x k3 D3 x0 x1 => hQ H3 _ x k3 D3 (by omega) x0 (by omega)⟩
    refine ⟨.int z1, rfl, rfl, _, rfl, ite2 (fun _ => ?_) (fun _ => ?_)⟩
    · refine ⟨.int n, rfl, n, rfl, by omega, by omega, lc_drawn (p := p) (t := t + 1 + 1) D2 hn (fun _ => rfl) (fun k t' H' Q' D' ht' hk hQ => ?_) (fun D H' t' r k' D' ht' eB ln ro => ⟨D, _, rfl, .inl ⟨.inl (.inl eB), last D H' t' r k' D' ht' eB ln ro⟩⟩)⟩
      refine ⟨.ref d, rfl, .int p, rfl, d, c, t', p, rfl, D', by omega, by omega, by omega, fun H3 x k3 D3 x0 x1 => ?_⟩
      refine ⟨.ref d, rfl, d, c, _, 2, rfl, D3, by omega, by decide, by decide, fun H4 y k4 D4 y0 y1 => ?_⟩
      refine ⟨x, y, rfl, rfl, .inl ⟨by omega, by omega⟩, hQ H4 _ (x * y) (k3.trans k4) D4 (by omega) (Int.mul_nonneg x0 y0) ?_⟩
      have : y = 0 ∨ y = 1 := by omega
      rcases this with rfl | rfl
      · omega
      · omega
    · refine ⟨.int n, rfl, n, rfl, by omega, by omega, lc_drawn (p := p) (t := t + 1 + 1) D2 hn (fun _ => rfl) (fun k t' H' Q' D' ht' hk hQ => ?_) (fun D H' t' r k' D' ht' eB ln ro => ⟨D, _, rfl, .inl ⟨.inl (.inl eB), last D H' t' r k' D' ht' eB ln ro⟩⟩)⟩
      exact ⟨.ref d, rfl, .int p, rfl, d, c, t', p, rfl, D', by omega, by omega, by omega, fun H3 x k3 D3 x0 x1 => hQ H3 _ x k3 D3 (by omega) x0 x1⟩
def sp_names3 : Sp := fun vs H Q _ => ∃ (d c : Addr) (t : Int) (m : Nat), vs = [.ref d, .int (m : Int)] ∧ Deck H d c t ∧ t ≤ 900000 ∧ m ≤ 26 ∧ ∀ H' a (xs : List Str) t', Kept d c H H' → Deck H' d c t' → t' ≤ t + 12 → H a = none → H' a = some (.lst (xs.map V.str)) → xs.length = m → sortedS xs = true → xs.Nodup → (∀ x ∈ xs, NameOk x) → Q (.ref a) H'
theorem at8 {xs : List Int} (hl : xs.length = 8) {r : Int} (h0 : 0 ≤ r) (h1 : r < 8) : ∃ z, z ∈ xs ∧ atI (xs.map V.int) r = some (V.int z) := by
  obtain ⟨x, hx, hx2, hx3⟩ := at_int (xs := xs) h0 (by omega)
  exact ⟨x, hx, hx3⟩
theorem ok__law_names (T : Top K mg) : Ok P w K mg base 2 "_law_names" ["_law_deck_here", "_law_many"] sp_names3 := by
  have O__law_draw := ok__law_draw (P := P) (w := w) (base := base) T
  refine T.d__law_names.ok sc__law_names (fun vs H Q E h => ?_) (fun f cdv A outer s H vs Q E hr h => ?_)
  · obtain ⟨d, c, t, m, rfl, _⟩ := h
    rfl
  · obtain ⟨d, c, t, m, rfl, D0, ht, hm, q⟩ := h
    refine ⟨_, ((pss_cons (ps_set (i := 2) sc__law_names.nd rfl (.inr rfl) pe_str)
      (pss_cons (ps_set (i := 3) sc__law_names.nd rfl (.inl rfl) (pe_ix ix_list (pe_lst (pa_cons pe_int (pa_cons pe_int (pa_cons pe_int (pa_cons pe_int (pa_cons pe_int (pa_cons pe_int (pa_cons pe_int (pa_cons pe_int pa_nil))))))))) (pe_callO O__law_draw (hr.mono (by omega)) (by rfl) (pa_cons (pv 0) (pa_cons pe_int pa_nil))) (fun _ _ => rfl)))
      (pss_cons (ps_set (i := 5) sc__law_names.nd rfl (.inr rfl) (pe_join pe_str (pe_lc (own := [("_law_k", 4)]) (g := gName 4) (by rfl) sc__law_names.nd (pi_range1 (by rfl) T.b_range (pa_cons (pv 3) pa_nil)) (blkOk_by (own := [("_law_k", 4)]) (N := N__law_names) (sc := defScope s__law_names) (by decide +kernel)) (fun _ _ _ _ _ => (pg_name (i := 4) sc__law_names.nd rfl (.inl rfl))) (fun _ _ _ _ _ => pts_nil) (fun _ _ _ _ _ => (pe_ix ix_str (pv 2) (pe_callO O__law_draw (hr.mono (by omega)) (by rfl) (pa_cons (pv 0) (pa_cons pe_int pa_nil))) (fun _ _ => rfl))))))
      (pss_cons (ps_set (i := 6) sc__law_names.nd rfl (.inr rfl) (pe_callO O__law_draw (hr.mono (by omega)) (by rfl) (pa_cons (pv 0) (pa_cons (pe_op op_add (pe_callB call_len_str (by rfl) T.b_len (by decide +kernel) (pa_cons (pv 5) pa_nil)) pe_int) pa_nil))))
      (pss_cons (ps_set (i := 7) sc__law_names.nd rfl (.inr rfl) (pe_callO O__law_draw (hr.mono (by omega)) (by rfl) (pa_cons (pv 0) (pa_cons pe_int pa_nil))))
      (pss_cons (ps_set (i := 8) sc__law_names.nd rfl (.inr rfl) (pe_ix ix_list (pe_lst (pa_cons pe_int (pa_cons pe_int (pa_cons pe_int (pa_cons pe_int (pa_cons pe_int (pa_cons pe_int (pa_cons pe_int (pa_cons pe_int pa_nil))))))))) (pe_callO O__law_draw (hr.mono (by omega)) (by rfl) (pa_cons (pv 0) (pa_cons pe_int pa_nil))) (fun _ _ => rfl)))
      (pss_one (ps_ret (pe_callB cr_sortedS (by rfl) T.b_sorted (by decide +kernel) (pa_cons (pe_lc (own := [("_law_k", 4)]) (g := gName 4) (by rfl) sc__law_names.nd (pi_range1 (by rfl) T.b_range (pa_cons (pv 1) pa_nil)) (blkOk_by (own := [("_law_k", 4)]) (N := N__law_names) (sc := defScope s__law_names) (by decide +kernel)) (fun _ _ _ _ _ => (pg_name (i := 4) sc__law_names.nd rfl (.inl rfl))) (fun _ _ _ _ _ => pts_nil) (fun _ _ _ _ _ => (pe_op op_add_str (pe_op op_add_str (pe_slice C8.sl_txt (pv 5) po_none (po_some (pv 6))) (pe_ix ix_str (pv 2) (pe_op op_mod (pe_op op_add (pv 7) (pe_op op_mul (pv 8) (pv 4))) pe_int) (fun _ _ => rfl))) (pe_slice C8.sl_txt (pv 5) (po_some (pv 6)) po_none)))) pa_nil))))))))))), ?_⟩
    refine ⟨by decide +kernel, fun l0 n0 => ?_⟩
    dsimp only
    generalize h1 : upd H l0 _ = H1
    obtain ⟨s1, e1⟩ := new_of h1 n0
    have D1 := D0.same s1
    have b0 := D0.fresh n0
    refine ⟨.ref d, rfl, d, c, t, 8, rfl, D1, by omega, by decide, by decide, fun H2 z2 k2 D2 a0 a1 => ?_⟩
    have el0 := k2 _ _ e1 (fun z => b0 (.inl z)) (fun z => b0 (.inr z))
    obtain ⟨lg, mlg, hlg⟩ := at8 (xs := [0, 0, 1, 2, 3, 5, 6, 7]) rfl a0 a1
    have lg7 : 0 ≤ lg ∧ lg ≤ 7 := by
      have : ∀ z ∈ ([0, 0, 1, 2, 3, 5, 6, 7] : List Int), 0 ≤ z ∧ z ≤ 7 := by decide
      exact this lg mlg
    refine ⟨l0, _, z2, .int lg, rfl, rfl, .inl (.inl el0), hlg, ?_⟩
    refine ⟨⟨_, rfl⟩, .int lg, rfl, lg, rfl, by omega, by omega, fun D nD => ?_⟩
    have bD := D2.fresh nD
    refine lc_range (lo := 0) (n := lg.toNat) (fun k H' => Kept d c H2 H' ∧ ∃ (t' : Int) (cs : List Nat), Deck H' d c t' ∧ t' ≤ t + 1 + k ∧ H' D = some (.lst ((cs.map fun c => SX.S [c]).map V.str)) ∧ cs.length = k ∧ ∀ x ∈ cs, 97 ≤ x ∧ x ≤ 122) ⟨Kept.of (same_upd nD), t + 1, [], D2.same (same_upd nD), by omega, upd_same, rfl, fun x hx => nomatch hx⟩ (fun k H' hk hW => ?_) (fun H' hW => ?_)
    · obtain ⟨k', t', cs, D', ht', eB, ln, ro⟩ := hW
      refine ⟨rfl, .str lettersS, rfl, .ref d, rfl, d, c, t', 26, rfl, D', by omega, by decide, by decide, fun H3 x k3 D3 x0 x1 => ?_⟩
      refine ⟨lettersS, x, _, rfl, rfl, by decide +kernel, letters_at x0 x1, ?_⟩
      refine ⟨_, k3 _ _ eB (fun z => bD (.inl z)) (fun z => bD (.inr z)), by rw [List.length_map, List.length_map]; exact small1000 (by omega), (k'.trans k3).mut nD, t' + 1, cs ++ [97 + x.toNat], D3.mut bD, by omega, ?_, by rw [List.length_append, ln]; rfl, fun y hy => ?_⟩
      · rw [upd_same, List.map_append, List.map_append]
        rfl
      · rcases List.mem_append.mp hy with h | h
        · exact ro y h
        · rw [List.mem_singleton.mp h]
          omega
    obtain ⟨k3, t3, cs, D3, ht3, eB, ln, ro⟩ := hW
    refine ⟨_, D, _, rfl, rfl, .inl (.inl (.inl eB)), ?_, ?_⟩
    · rw [ones_sum, List.length_map, ln, show (Str.ofString "").length = 0 from rfl]
      omega
    rw [join_cs]
    have lcs : (SX.S cs).length = cs.length := SX.S_len cs
    have sz : (SX.S cs).length ≤ sizeLine := by rw [lcs]; exact Nat.le_of_lt (small1000 (by omega))
    refine ⟨.ref d, rfl, .str (SX.S cs), rfl, _, rfl, sz, _, 1, rfl, rfl, d, c, t3, _, rfl, D3, by omega, by rw [lcs]; omega, by rw [lcs]; omega, fun H4 cut k4 D4 c0 c1 => ?_⟩
    refine ⟨.ref d, rfl, d, c, t3 + 1, 26, rfl, D4, by omega, by decide, by decide, fun H5 fi k5 D5 f0 f1 => ?_⟩
    refine ⟨by decide +kernel, fun l6 n6 => ?_⟩
    dsimp only
    generalize h6 : upd H5 l6 _ = H6
    obtain ⟨s6, e6⟩ := new_of h6 n6
    have D6 := D5.same s6
    have b6 := D5.fresh n6
    refine ⟨.ref d, rfl, d, c, t3 + 1 + 1, 8, rfl, D6, by omega, by decide, by decide, fun H7 z7 k7 D7 g0 g1 => ?_⟩
    have el6 := k7 _ _ e6 (fun z => b6 (.inl z)) (fun z => b6 (.inr z))
    obtain ⟨st, mst, hst⟩ := at8 (xs := [1, 3, 5, 7, 9, 11, 15, 17]) rfl g0 g1
    have hs8 : st = 1 ∨ st = 3 ∨ st = 5 ∨ st = 7 ∨ st = 9 ∨ st = 11 ∨ st = 15 ∨ st = 17 := by
      have : ∀ z ∈ ([1, 3, 5, 7, 9, 11, 15, 17] : List Int), z = 1 ∨ z = 3 ∨ z = 5 ∨ z = 7 ∨ z = 9 ∨ z = 11 ∨ z = 15 ∨ z = 17 := by decide
      exact this st mst
    refine ⟨l6, _, z7, .int st, rfl, rfl, .inl (.inl el6), hst, ?_⟩
    refine ⟨.int m, rfl, m, rfl, by omega, by omega, fun L nL => ?_⟩
    have k07 : Kept d c H H7 := (Kept.of s1).trans (k2.trans (k3.trans (k4.trans (k5.trans ((Kept.of s6).trans k7)))))
    refine lc_range (lo := 0) (n := (m : Int).toNat) (fun k H' => Same H7 H' ∧ H' L = some (.lst (((List.range k).map (nameAt cs cut fi st)).map V.str))) ⟨same_upd nL, upd_same⟩ (fun k H' hk hW => ?_) (fun H' hW => ?_)
    · obtain ⟨s8, e8⟩ := hW
      have sk : 0 ≤ st * k ∧ st * k ≤ 17 * 26 := by
        rcases hs8 with rfl | rfl | rfl | rfl | rfl | rfl | rfl | rfl
        all_goals omega
      have r0 := Int.emod_nonneg (fi + st * k) (b := 26) (by decide)
      have r1 := Int.emod_lt_of_pos (fi + st * k) (b := 26) (by decide)
      refine ⟨rfl, .str (SX.S cs), rfl, .int cut, rfl, cut, rfl, _, rfl, sz, .str lettersS, rfl, .int fi, rfl, .int st, rfl, .int (0 + k), rfl, ?_⟩
      have l1 : (SX.S (cs.take cut.toNat)).length ≤ 7 := by
        rw [SX.S_len, List.length_take]
        omega
      have l2 : (SX.S (cs.drop cut.toNat)).length ≤ 7 := by
        rw [SX.S_len, List.length_drop]
        omega
      rw [show (0 : Int) + (k : Int) = (k : Int) by omega]
      refine ⟨st, k, rfl, rfl, .inl ⟨by omega, by omega⟩, fi, _, rfl, rfl, _, 26, rfl, rfl, show (0 : Int) < 26 by decide, lettersS, _, _, rfl, rfl, by decide +kernel, letters_at r0 r1, ?_⟩
      rw [SX.slice_to c0]
      refine ⟨_, _, rfl, rfl, ?_, .str (SX.S cs), rfl, .int cut, rfl, cut, rfl, _, rfl, sz, ?_⟩
      · exact Nat.le_of_lt (small1000 (by rw [show (Str.length ⟨#[97 + ((fi + st * k) % 26).toNat]⟩) = 1 from rfl]; omega))
      rw [SX.slice_from c0]
      refine ⟨_, _, rfl, rfl, ?_, _, e8, by rw [List.length_map, List.length_map, List.length_range]; exact small1000 (by omega), same_mut s8 nL, ?_⟩
      · refine Nat.le_of_lt (small1000 ?_)
        rw [show (Str.mk #[97 + ((fi + st * k) % 26).toNat]) = SX.S [97 + ((fi + st * k) % 26).toNat] from rfl, SX.S_cat, SX.S_len, List.length_append]
        rw [SX.S_len] at l1
        simp only [List.length_cons, List.length_nil]
        omega
      · rw [upd_same, List.range_succ, List.map_append, List.map_append]
        rw [show (Str.mk #[97 + ((fi + st * k) % 26).toNat]) = SX.S [97 + ((fi + st * k) % 26).toNat] from rfl, SX.S_cat, SX.S_cat, List.append_assoc]
        rfl
    · obtain ⟨s8, e8⟩ := hW
      refine ⟨L, _, rfl, .inl (.inl e8), by rw [List.length_map, List.length_range]; omega, fun ys p pm so np => ?_⟩
      have s9 := same_upd (o := .lst (ys.map V.str)) np
      refine q _ p ys _ ((k07.trans (Kept.of s8)).trans (Kept.of s9)) ((D7.same s8).same s9) (by omega) (kept_none (D7.same s8) (k07.trans (Kept.of s8)) np) upd_same ?_ so (pm.nodup_iff.mpr (names_nodup hs8 (by omega))) (fun x hx => ?_)
      · rw [pm.length_eq, List.length_map, List.length_range]
        omega
      · obtain ⟨i, _, rfl⟩ := List.mem_map.mp (pm.mem_iff.mp hx)
        exact nameAt_ok ro (by omega)
end
end OC
set_option Elab.async false
set_option linter.all false
set_option maxRecDepth 100000
set_option maxHeartbeats 4000000
namespace OC
open PySem PySem.Spec PyProof.Rows L2
section
variable {P : Program} {w : World} {K : PySem.W.Frag} {mg : Str → Option Value} {base : Heap}
def sp_rising (K : PySem.W.Frag) : Sp := fun vs H Q _ => ∃ (a : Addr) (xs : List V) (ds : List PyData), vs = [.ref a] ∧ SqT K H a xs ∧ DpAll K H xs ds ∧ W.AllAlike ds ∧ (∀ d ∈ ds, d ≠ .none ∧ d.depth ≤ 60) ∧ xs.length ≤ 1000 ∧ ∀ H', Same H H' → Q (.bl (risD ds)) H'
theorem ok_is_rising (T : Top K mg) : Ok P w K mg base 1 "is_rising" ["things"] (sp_rising K) := by
  refine T.d_is_rising.ok sc_is_rising (fun vs H Q E h => ?_) (fun f cdv A outer s H vs Q E hr h => ?_)
  · obtain ⟨a, xs, ds, rfl, _⟩ := h
    rfl
  · obtain ⟨a, xs, ds, rfl, hA, hx, al, ne, l1, q⟩ := h
    refine ⟨_, ((pss_one (ps_ret (pe_callB (cr_all (by rfl)) (by rfl) T.b_all (by decide +kernel) (pa_cons (pe_lc (own := [("one", 1), ("other", 2)]) (g := gTup K 2 (gCons (gName 1) (gCons (gName 2) gNil))) (by rfl) sc_is_rising.nd (pi_zipB (by rfl) T.b_zip (pa_cons (pv 0) (pa_cons (pe_slice sl_tupB (pv 0) (po_some pe_int) po_none) pa_nil))) (blkOk_by (own := [("one", 1), ("other", 2)]) (N := N_is_rising) (sc := defScope s_is_rising) (by decide +kernel)) (fun _ _ _ _ _ => (pg_tup (by rfl) (pgs_cons (pg_name (i := 1) sc_is_rising.nd rfl (.inl rfl)) (pgs_cons (pg_name (i := 2) sc_is_rising.nd rfl (.inl rfl)) pgs_nil)))) (fun _ _ _ _ _ => pts_nil) (fun _ _ _ _ _ => (pe_cmpR (show OpR _ (compareOp .Lt) (rLtD K) from op_ltD hr.units) (pv 1) (pv 2) (nomark _)))) pa_nil))))), ?_⟩
    have lx := dpAll_len hx
    refine ⟨.ref a, rfl, .ref a, rfl, 1, rfl, a, _, rfl, hA, fun b1 H1 s1 hb1 => ?_⟩
    rw [cut1] at hb1
    have hA1 := Same.tup s1 hA
    refine ⟨a, b1, _, _, rfl, hb1, .inl ⟨hA1, fun D nD => ?_⟩⟩
    refine lc_it (walk_zipT (K := K) (a := a) (b := b1) (xs := xs) (ys := xs.drop 1) rfl) (fun k H' => Same H1 H' ∧ H' D = some (.lst (((List.zipWith W.dataLt ds (ds.drop 1)).take k).map V.bl))) ⟨same_upd nD, upd_same⟩ (fun k H' _ hP => ⟨Same.tup hP.1 hA1, Same.tup hP.1 hb1⟩) (fun k x H2 H3 hk hP hY => ?_) (fun H' hP => ?_)
    · obtain ⟨Ta, x1, y1, rfl, nT, rfl, e1, e2⟩ := hY
      obtain ⟨sm, eD⟩ := hP
      have sT : Same H2 (upd H2 Ta (.tup [x1, y1])) := same_upd nT
      have e1 : xs[k]? = some x1 := e1
      have e2 : (xs.drop 1)[k]? = some y1 := e2
      rw [List.getElem?_drop] at e2
      obtain ⟨d1, g1, m1, p1⟩ := dpAll_get hx e1
      obtain ⟨d2, g2, m2, p2⟩ := dpAll_get hx e2
      have sa := (s1.trans sm).trans sT
      refine ⟨Ta, [x1, y1], rfl, .inl (.inl upd_same), rfl, x1, [y1], rfl, y1, [], rfl, rfl, rfl, ?_⟩
      refine ⟨x1, rfl, y1, rfl, d1, d2, dp_same sa _ _ p1, dp_same sa _ _ p2, al _ m1 _ m2, (ne _ m1).1, (ne _ m1).2, ?_⟩
      refine ⟨_, sT _ _ eD, ?_, same_mut (sm.trans sT) nD, ?_⟩
      · rw [List.length_map, List.length_take, List.length_zipWith]
        exact small1000 (by omega)
      · have gd : (ds.drop 1)[k]? = some d2 := by rw [List.getElem?_drop]; exact g2
        rw [upd_same, List.take_add_one, List.getElem?_zipWith, g1, gd, List.map_append]
        rfl
    · obtain ⟨sm, eD⟩ := hP
      rw [List.take_of_length_le (by rw [List.length_zipWith, List.length_drop, List.length_drop]; omega)] at eD
      exact ⟨D, _, rfl, .inl (.inl eD), q H' (s1.trans sm)⟩
theorem lp1 {f : Str} {v : V} : (putF f v []).length < 1000 := Nat.lt_of_le_of_lt (length_putF _ _ _) (by decide)
theorem lp2 {f g : Str} {v u : V} : (putF g u (putF f v [])).length < 1000 := by
  have h1 := length_putF f v []
  have h2 := length_putF g u (putF f v [])
  simp only [List.length_nil] at h1
  omega
theorem lp3 {f g e : Str} {v u z : V} : (putF e z (putF g u (putF f v []))).length < 1000 := by
  have h1 := length_putF f v []
  have h2 := length_putF g u (putF f v [])
  have h3 := length_putF e z (putF g u (putF f v []))
  simp only [List.length_nil] at h1
  omega
theorem lp4 {f g e d : Str} {v u z y : V} : (putF d y (putF e z (putF g u (putF f v [])))).length < 1000 := by
  have h1 := length_putF f v []
  have h2 := length_putF g u (putF f v [])
  have h3 := length_putF e z (putF g u (putF f v []))
  have h4 := length_putF d y (putF e z (putF g u (putF f v [])))
  simp only [List.length_nil] at h1
  omega
def sp_moment (K : PySem.W.Frag) (mg : Str → Option Value) : Sp := fun vs H Q _ => ∃ (x dx c h : Addr) (p : Int) (n : Nat), vs = [.ref x, .int p, .int (n : Int), .ref c, .ref h] ∧ H x = some (.ins (adr mg "Moment") dx []) ∧
  ∀ H', (∀ a o, H a = some o → a ≠ x → H' a = some o) → H' x = some (.ins (adr mg "Moment") dx (momF p n c h)) → Q .non H'
theorem ok_Moment___init__ (T : Top K mg) : OkM P w K mg base 1 "Moment" "__init__" ["self", "p", "n", "called", "hands"] [] (sp_moment K mg) := by
  refine T.d_Moment___init__.ok sc_Moment___init__ (fun vs H Q E h => ?_) (fun f cdv A outer s H vs Q E hr h => ?_)
  · obtain ⟨x, dx, c, h, p, n, rfl, _⟩ := h
    rfl
  · obtain ⟨x, dx, c, hh, p, n, rfl, hx, q⟩ := h
    refine ⟨_, ((pss_cons (ps_fld (pv 0) (pv 1) (by rfl))
      (pss_cons (ps_fld (pv 0) (pv 2) (by rfl))
      (pss_cons (ps_fld (pv 0) (pv 3) (by rfl))
      (pss_one (ps_fld (pv 0) (pv 4) (by rfl))))))), ?_⟩
    refine ⟨.int p, rfl, .ref x, rfl, x, _, dx, _, rfl, hx, T.k_Moment.cl, T.na_Moment_p, by decide, ?_⟩
    refine ⟨.int n, rfl, .ref x, rfl, x, _, dx, _, rfl, upd_same, T.k_Moment.cl, T.na_Moment_n, lp1, ?_⟩
    refine ⟨.ref c, rfl, .ref x, rfl, x, _, dx, _, rfl, upd_same, T.k_Moment.cl, T.na_Moment_called, lp2, ?_⟩
    refine ⟨.ref hh, rfl, .ref x, rfl, x, _, dx, _, rfl, upd_same, T.k_Moment.cl, T.na_Moment_hands, lp3, ?_⟩
    refine q _ (fun a o e ne => ?_) upd_same
    rw [upd_ne ne, upd_ne ne, upd_ne ne, upd_ne ne]
    exact e
/-- a moment newly made -/
theorem mom_made {H H2 : Hp} {x dx c h : Addr} {m : Mom} (nx : H x = none) (ndx : H dx = none) (hc : RowsAt K H c m.called) (hh : Dp K H (.ref h) (.tuple (m.hands.map handD)))
    (k : ∀ a o, (upd (upd H dx (.own x)) x (.ins (adr mg "Moment") dx [])) a = some o → a ≠ x → H2 a = some o) (e : H2 x = some (.ins (adr mg "Moment") dx (momF m.p m.n c h))) : Same H H2 ∧ MomAt K mg H2 x m := by
  have s : Same H H2 := fun b o e => by
    have nb : b ≠ x := fun z => by rw [z, nx] at e; cases e
    have nd : b ≠ dx := fun z => by rw [z, ndx] at e; cases e
    refine k b o ?_ nb
    rw [upd_ne nb, upd_ne nd]
    exact e
  exact ⟨s, dx, c, h, e, RowsAt.same s hc, dp_same s _ _ hh⟩
theorem mom_hands {H : Hp} {h : Addr} {hs : List (Str × List (List Int))} (d : Dp K H (.ref h) (.tuple (hs.map handD))) : ∃ wg, SqT K H h wg ∧ DpAll K H wg (hs.map handD) ∧ wg.length = hs.length := by
  cases d with
  | tup a b =>
    have := dpAll_len b
    rw [List.length_map] at this
    exact ⟨_, a, b, this⟩
def sp_names_at (K : PySem.W.Frag) (mg : Str → Option Value) : Sp := fun vs H Q _ => ∃ (a : Addr) (m : Mom), vs = [.ref a] ∧ MomAt K mg H a m ∧ m.hands.length ≤ 100 ∧ ∀ H' l, Same H H' → SqT K H' l ((m.hands.map Prod.fst).map V.str) → Q (.ref l) H'
theorem ok_names_at (T : Top K mg) : Ok P w K mg base 1 "names_at" ["moment"] (sp_names_at K mg) := by
  refine T.d_names_at.ok sc_names_at (fun vs H Q E h => ?_) (fun f cdv A outer s H vs Q E hr h => ?_)
  · obtain ⟨a, m, rfl, _⟩ := h
    rfl
  · obtain ⟨a, m, rfl, ⟨dx, c, h, ea, hc, hh⟩, lm, q⟩ := h
    refine ⟨_, ((pss_one (ps_ret (pe_callTy call_tuple_of (by rfl) T.b_tuple (by decide +kernel) (pa_cons (pe_lc (own := [("name", 1), ("rows", 2)]) (g := gTup K 2 (gCons (gName 1) (gCons (gName 2) gNil))) (by rfl) sc_names_at.nd (pi_tup (pe_fld (pv 0) (by rfl))) (blkOk_by (own := [("name", 1), ("rows", 2)]) (N := N_names_at) (sc := defScope s_names_at) (by decide +kernel)) (fun _ _ _ _ _ => (pg_tup (by rfl) (pgs_cons (pg_name (i := 1) sc_names_at.nd rfl (.inl rfl)) (pgs_cons (pg_name (i := 2) sc_names_at.nd rfl (.inl rfl)) pgs_nil)))) (fun _ _ _ _ _ => pts_nil) (fun _ _ _ _ _ => (pv 1))) pa_nil))))), ?_⟩
    obtain ⟨wg, hg, dg, lg⟩ := mom_hands hh
    refine ⟨.ref a, rfl, a, _, dx, _, _, rfl, ea, T.k_Moment.cl, T.na_Moment_hands, momF_hands, h, rfl, ⟨_, hg⟩, fun D nD => lc_it (walk_tup (K := K) (a := h) (xs := wg)) (fun i H' => Same H H' ∧ H' D = some (.lst (((m.hands.take i).map Prod.fst).map V.str))) ⟨same_upd nD, upd_same⟩ (fun i H' _ hP => Same.tup hP.1 hg) (fun i x Ha Hb hi hP hY => ?_) (fun H3 hP => ?_)⟩
    · obtain ⟨rfl, hx⟩ := hY
      obtain ⟨s1, eD⟩ := hP
      obtain ⟨c', r, x, rfl, gx, mx, hc', hrr⟩ := dpAll_hand (dpAll_same s1 _ _ dg) hx
      refine ⟨c', _, rfl, hc', rfl, _, _, rfl, _, _, rfl, rfl, rfl, .str x.1, rfl, _, eD, ?_, same_mut s1 nD, ?_⟩
      · rw [List.length_map, List.length_map, List.length_take]
        exact small1000 (by omega)
      · rw [upd_same, List.take_add_one, gx, List.map_append, List.map_append]
        rfl
    · obtain ⟨s3, eD⟩ := hP
      rw [List.take_of_length_le (by omega)] at eD
      exact ⟨D, _, rfl, .inl ⟨.inl (.inl eD), fun l nl => q _ l (s3.trans (same_upd nl)) (.inl (.inl upd_same))⟩⟩
def sp_heard_at (K : PySem.W.Frag) (mg : Str → Option Value) : Sp := fun vs H Q _ => ∃ (a b : Addr) (m : Mom) (ns : List Str), vs = [.ref a, .ref b] ∧ MomAt K mg H a m ∧ SqT K H b (ns.map V.str) ∧ m.hands.length ≤ 9 ∧ (∀ h ∈ m.hands, h.2.length ≤ 1000) ∧
  ∀ H' l, Same H H' → RowsAt K H' l (heardM m ns) → Q (.ref l) H'
theorem ok_heard_at (T : Top K mg) : Ok P w K mg base 1 "heard_at" ["moment", "names"] (sp_heard_at K mg) := by
  refine T.d_heard_at.ok sc_heard_at (fun vs H Q E h => ?_) (fun f cdv A outer s H vs Q E hr h => ?_)
  · obtain ⟨a, b, m, ns, rfl, _⟩ := h
    rfl
  · obtain ⟨a, b, m, ns, rfl, ⟨dx, c, h, ea, hc, hh⟩, hb, lm, lh, q⟩ := h
    refine ⟨_, ((pss_cons (ps_if (pt_cmpR op_eq (pe_callB call_len_seq (by rfl) T.b_len (by decide +kernel) (pa_cons (pv 1) pa_nil)) pe_int (nomark _))
        (pss_one (ps_ret (pe_fld (pv 0) (by rfl))))
        pss_nil)
      (pss_cons (ps_set (i := 2) sc_heard_at.nd rfl (.inl rfl) (pe_lst pa_nil))
      (pss_cons (ps_for PassesOwn.never (by rfl) (pi_tup (pe_fld (pv 0) (by rfl))) (pg_tup (by rfl) (pgs_cons (pg_name (i := 3) sc_heard_at.nd rfl (.inl rfl)) (pgs_cons (pg_name (i := 4) sc_heard_at.nd rfl (.inl rfl)) pgs_nil)))
        (pss_one (ps_if (pt_cmpR op_in_seq (pv 3) (pv 1) (by rfl))
          (pss_one (ps_expr (pe_bm PySem.F.plainAttrs_list PySem.F.slot_list_extend PySem.F.type_list_extend mt_extT (pv 2) (pa_cons (pv 4) pa_nil))))
          pss_nil)))
      (pss_one (ps_ret (pe_callTy call_tuple_of (by rfl) T.b_tuple (by decide +kernel) (pa_cons (pv 2) pa_nil)))))))), ?_⟩
    obtain ⟨wg, hg, dg, lg⟩ := mom_hands hh
    refine ⟨.ref b, rfl, b, _, rfl, .inr hb, rfl, _, rfl, ?_⟩
    by_cases hn : ns = []
    · subst hn
      refine iteT ⟨.ref a, rfl, a, _, dx, _, _, rfl, ea, T.k_Moment.cl, T.na_Moment_called, momF_called, ?_⟩
      exact q H c (Same.refl H) hc
    · have ne : ¬ (V.int ((ns.map V.str).length : Int) = V.int 0) := fun z => by
        injection z with z
        rw [List.length_map] at z
        cases ns with
        | nil => exact hn rfl
        | cons x r => simp at z; omega
      rw [decide_eq_false ne]
      refine iteF ⟨Nat.zero_le _, fun L nL => ?_⟩
      generalize h1 : upd H L _ = H1
      obtain ⟨s1, e1⟩ := new_of h1 nL
      refine ⟨.ref a, rfl, a, _, dx, _, _, rfl, s1 _ _ ea, T.k_Moment.cl, T.na_Moment_hands, momF_hands, h, rfl, ⟨_, Same.tup s1 hg⟩, for_it (walk_tup (K := K) (a := h) (xs := wg)) (fun i σ H' => Same H H' ∧ ∃ (ws : List V) (y3 y4 : Option V), H' L = some (.lst ws) ∧ DpAll K H' ws ((selR ns (m.hands.take i)).map rowD) ∧ σ = [some (.ref a), some (.ref b), some (.ref L), y3, y4]) ⟨s1, [], none, none, e1, .nil, rfl⟩ (fun i σ H' _ hW => Same.tup hW.1 hg) (fun i x σ H2 H3 hi hW hY => ?_) (fun σ H2 hW => ?_)⟩
      · obtain ⟨rfl, hx⟩ := hY
        obtain ⟨s2, ws, y3, y4, eL, dl, rfl⟩ := hW
        obtain ⟨c', r, x, rfl, gx, mx, hc', hrr⟩ := dpAll_hand (dpAll_same s2 _ _ dg) hx
        refine ⟨c', _, rfl, hc', rfl, _, _, rfl, _, _, rfl, rfl, ?_⟩
        refine ⟨.str x.1, rfl, .ref b, rfl, b, _, rfl, .inr (Same.tup s2 hb), rfl, flat_strs ns, _, rfl, ?_⟩
        rw [show (if false = true then !inV (V.str x.1) (ns.map V.str) else inV (V.str x.1) (ns.map V.str)) = decide (x.1 ∈ ns) from in_strs x.1 ns]
        have st := sel_take (ns := ns) gx
        by_cases hn : x.1 ∈ ns
        · rw [decide_eq_true hn]
          rw [if_pos hn] at st
          obtain ⟨w2, hr1, hr2⟩ := hrr
          have l1 := rows_len dl
          have l2 := rows_len hr2
          have ls := sel_len (ns := ns) (B := 1000) (hs := m.hands.take i) (fun y hy => lh y (List.mem_of_mem_take hy))
          have ls9 : (selR ns (m.hands.take i)).length ≤ 1000 * 9 := Nat.le_trans ls (Nat.mul_le_mul_left 1000 (by rw [List.length_take]; omega))
          have lx := lh x mx
          have tk := (Tk.refl H3).mut eL (ys := ws ++ w2)
          refine iteT ⟨.ref L, rfl, .inl ⟨rfl, _, .inl (.inl eL)⟩, .ref r, rfl, L, r, ws, w2, rfl, rfl, eL, hr1, Nat.le_trans (show ws.length + w2.length ≤ 10000 by omega) (by decide), ?_⟩
          refine ⟨same_mut s2 nL, ws ++ w2, _, _, upd_same, ?_, rfl⟩
          rw [st, List.map_append]
          exact dpAll_append (dpAll_tk tk _ _ (noL_rows _) dl) (dpAll_tk tk _ _ (noL_rows _) hr2)
        · rw [decide_eq_false hn]
          rw [if_neg hn, List.append_nil] at st
          exact iteF ⟨s2, ws, _, _, eL, by rw [st]; exact dl, rfl⟩
      · obtain ⟨s2, ws, y3, y4, eL, dl, rfl⟩ := hW
        rw [List.take_of_length_le (by omega)] at dl
        refine ⟨.ref L, rfl, L, _, rfl, .inl ⟨.inl (.inl eL), fun l nl => ?_⟩⟩
        have s3 : Same H2 (upd H2 l (.tup ws)) := same_upd nl
        refine q _ l (s2.trans s3) ?_
        unfold heardM
        rw [if_neg hn]
        exact ⟨ws, .inl (.inl upd_same), dpAll_same s3 _ _ dl⟩
def sp_known_at (K : PySem.W.Frag) (mg : Str → Option Value) : Sp := fun vs H Q _ => ∃ (a b : Addr) (m : Mom) (ns : List Str), vs = [.ref a, .ref b] ∧ MomAt K mg H a m ∧ SqT K H b (ns.map V.str) ∧ MomOk 1000 m ∧
  ∀ H' l, Same H H' → RowsAt K H' l (plainR m.p m.n (heardM m ns)) → Q (.ref l) H'
theorem heard_ok {B : Nat} {m : Mom} (M : MomOk B m) (ns : List Str) : RowsOk m.p m.n (heardM m ns) := by
  unfold heardM
  split
  · exact M.okc
  · intro r hr
    obtain ⟨h, mh, hr⟩ := List.mem_flatMap.mp hr
    split at hr
    · exact M.okh h mh r hr
    · cases hr
theorem ok_known_at (T : Top K mg) : Ok P w K mg base 6 "known_at" ["moment", "names"] (sp_known_at K mg) := by
  have O_heard_at := ok_heard_at (P := P) (w := w) (base := base) T
  have O_room_of := ok_room_of (P := P) (w := w) (base := base) T
  refine T.d_known_at.ok sc_known_at (fun vs H Q E h => ?_) (fun f cdv A outer s H vs Q E hr h => ?_)
  · obtain ⟨a, b, m, ns, rfl, _⟩ := h
    rfl
  · obtain ⟨a, b, m, ns, rfl, ma, hb, M, q⟩ := h
    obtain ⟨dx, c, h, ea, hc, hh⟩ := id ma
    refine ⟨_, ((pss_one (ps_ret (pe_callO O_room_of (hr.mono (by omega)) (by rfl) (pa_cons (pe_fld (pv 0) (by rfl)) (pa_cons (pe_fld (pv 0) (by rfl)) (pa_cons (pe_callO O_heard_at (hr.mono (by omega)) (by rfl) (pa_cons (pv 0) (pa_cons (pv 1) pa_nil))) pa_nil))))))), ?_⟩
    refine ⟨.ref a, rfl, a, _, dx, _, _, rfl, ea, T.k_Moment.cl, T.na_Moment_p, momF_p, .ref a, rfl, a, _, dx, _, _, rfl, ea, T.k_Moment.cl, T.na_Moment_n, momF_n, ?_⟩
    refine ⟨.ref a, rfl, .ref b, rfl, a, b, m, ns, rfl, ma, hb, Nat.le_trans M.many (by decide), M.lh, fun H1 l s1 r1 => ?_⟩
    have n8 := M.n8
    exact ⟨l, heardM m ns, m.p, m.n, rfl, r1, heard_ok M ns, M.fld, M.n1, by omega, M.p1, fun H2 l2 s2 r2 => q H2 l2 (s1.trans s2) r2⟩
/-- the letters that names are made of -/
def LT : Str := "abcdefghijklmnopqrstuvwxyz"
def okc (c : Nat) : Bool := !(Builtin.Str.occurrences LT ⟨#[c]⟩ 0 LT.length 1).isEmpty
def rInStr : V → V → Hp → VK → Prop := fun x y H Q => ∃ i j, x = .str i ∧ y = .str j ∧ Q (.bl (!(Builtin.Str.occurrences j i 0 j.length 1).isEmpty)) H
def nameB : PyData → Bool
  | .str z => (decide (1 ≤ z.length) && decide (z.length ≤ 8)) && z.cps.toList.all okc
  | _ => false
theorem okc_all : ∀ c ∈ List.range' 97 26, okc c = true := by decide +kernel
theorem nameB_ok {x : Str} (h : NameOk x) : nameB (.str x) = true := by
  simp only [nameB, Bool.and_eq_true, decide_eq_true_eq, List.all_eq_true]
  refine ⟨⟨h.1, h.2.1⟩, fun c hc => ?_⟩
  have := h.2.2 c hc
  exact okc_all c (List.mem_range'_1.mpr ⟨this.1, by omega⟩)
def sp_is_name (K : PySem.W.Frag) : Sp := fun vs H Q _ => ∃ (v : V) (d : PyData) (bad : Addr → Prop), vs = [v] ∧ Rep K H bad v d ∧ (∀ z, d = .str z → z.length ≤ 1000000) ∧ ∀ H', Same H H' → Q (.bl (nameB d)) H'
theorem ok_is_name (T : Top K mg) : Ok P w K mg base 1 "is_name" ["thing"] (sp_is_name K) := by
  refine T.d_is_name.ok sc_is_name (fun vs H Q E h => ?_) (fun f cdv A outer s H vs Q E hr h => ?_)
  · obtain ⟨v, d, bad, rfl, _⟩ := h
    rfl
  · obtain ⟨v, d, bad, rfl, rv, lz, q⟩ := h
    refine ⟨_, ((pss_one (ps_ret (pe_and (pe_callB call_isi (by rfl) T.b_isinstance (by decide +kernel) (pa_cons (pv 0) (pa_cons (pe_bltn (v := .ty "str") (u := .type "str") (by rfl) T.b_str (by decide +kernel) rfl) pa_nil))) (pe_and (pe_chain op_le op_le pe_int (pe_callB call_len_str (by rfl) T.b_len (by decide +kernel) (pa_cons (pv 0) pa_nil)) pe_int) (pe_one (pe_callB (cr_all (by rfl)) (by rfl) T.b_all (by decide +kernel) (pa_cons (pe_lc (own := [("sign", 1)]) (g := gName 1) (by rfl) sc_is_name.nd (pi_str (pv 0)) (blkOk_by (own := [("sign", 1)]) (N := N_is_name) (sc := defScope s_is_name) (by decide +kernel)) (fun _ _ _ _ _ => (pg_name (i := 1) sc_is_name.nd rfl (.inl rfl))) (fun _ _ _ _ _ => pts_nil) (fun _ _ _ _ _ => (pe_cmpR (show OpR _ (compareOp .In) rInStr from op_in_str) (pv 1) (pe_cstr T.c_LETTERS (by rfl)) (by rfl)))) pa_nil)))))))), ?_⟩
    refine ⟨v, rfl, v, .ty "str", _, _, _, rfl, .ty "str", rv.kd, kit_str _, _, rfl, ?_⟩
    by_cases hk : kdOf d = .str
    · obtain ⟨z, rfl⟩ : ∃ z, d = .str z := by cases d <;> first | exact ⟨_, rfl⟩ | cases hk
      cases rv
      have lz := lz z rfl
      rw [decide_eq_true hk]
      refine iteT ⟨.str z, rfl, z, rfl, Nat.le_trans lz (by decide), ?_⟩
      refine ⟨1, _, rfl, rfl, _, rfl, ?_⟩
      by_cases h1 : 1 ≤ z.length
      · rw [decide_eq_true (show (1 : Int) ≤ (z.length : Int) by omega)]
        refine iteT ⟨_, 8, rfl, rfl, _, rfl, ?_⟩
        by_cases h8 : z.length ≤ 8
        · rw [decide_eq_true (show (z.length : Int) ≤ 8 by omega)]
          have ls : z.cps.size ≤ 8 := h8
          refine iteT ⟨.str z, rfl, z, rfl, fun D nD => lc_it (walk_str (z := z)) (fun i H' => Same H H' ∧ H' D = some (.lst (((z.cps.toList.take i).map okc).map V.bl))) ⟨same_upd nD, upd_same⟩ (fun i H' _ hP => trivial) (fun i x Ha Hb hi hP hY => ?_) (fun H3 hP => ?_)⟩
          · obtain ⟨rfl, c, hc, rfl⟩ := hY
            obtain ⟨s1, eD⟩ := hP
            refine ⟨rfl, .str ⟨#[c]⟩, rfl, ⟨#[c]⟩, LT, rfl, rfl, _, eD, ?_, same_mut s1 nD, ?_⟩
            · rw [List.length_map, List.length_map, List.length_take]
              exact small1000 (by omega)
            · have g : z.cps.toList[i]? = some c := by rw [Array.getElem?_toList]; exact hc
              rw [upd_same, List.take_add_one, g, List.map_append, List.map_append]
              rfl
          · obtain ⟨s3, eD⟩ := hP
            rw [List.take_of_length_le (by simp)] at eD
            refine ⟨D, _, rfl, .inl (.inl eD), ?_⟩
            have := q H3 s3
            simp only [nameB] at this
            rw [decide_eq_true h1, decide_eq_true h8, Bool.true_and, Bool.true_and] at this
            rw [List.all_map]
            exact this
        · rw [decide_eq_false (show ¬ (z.length : Int) ≤ 8 by omega)]
          refine iteF ?_
          have := q H (Same.refl H)
          simp only [nameB] at this
          rw [decide_eq_false h8, Bool.and_false, Bool.false_and] at this
          exact this
      · rw [decide_eq_false (show ¬ (1 : Int) ≤ (z.length : Int) by omega)]
        refine iteF ⟨_, rfl, iteF ?_⟩
        have := q H (Same.refl H)
        simp only [nameB] at this
        rw [decide_eq_false h1, Bool.false_and, Bool.false_and] at this
        exact this
    · rw [decide_eq_false hk]
      refine iteF ?_
      have e : nameB d = false := by
        cases d <;> first | rfl | exact absurd rfl hk
      rw [e] at q
      exact q H (Same.refl H)
def sp_check_rowB (K : PySem.W.Frag) : Sp := fun vs H Q _ => ∃ (a : Addr) (r : List Int) (p : Int) (n : Nat), vs = [.int p, .int (n : Int), .ref a] ∧ SqT K H a (r.map V.int) ∧ RowsOk p n [r] ∧ r.length ≤ 1000 ∧ ∀ H', Same H H' → Q .non H'
theorem ok_check_rowB (T : Top K mg) : Ok P w K mg base 4 "check_row" ["p", "n", "row"] (sp_check_rowB K) := by
  have O_is_row := ok_is_row (P := P) (w := w) (base := base) T
  refine T.d_check_row.ok sc_check_row (fun vs H Q E h => ?_) (fun f cdv A outer s H vs Q E hr h => ?_)
  · obtain ⟨a, r, p, n, rfl, _⟩ := h
    rfl
  · obtain ⟨a, r, p, n, rfl, ha, ok, ln, q⟩ := h
    refine ⟨_, ((pss_one (ps_if (pt_not (pt_val (pe_callO O_is_row (hr.mono (by omega)) (by rfl) (pa_cons (pv 0) (pa_cons (pv 1) (pa_cons (pv 2) pa_nil))))))
        (pss_one ps_dead)
        pss_nil))), ?_⟩
    have lr := (ok r List.mem_cons_self).1
    refine ⟨.int p, rfl, .int n, rfl, .ref a, rfl, p, n, .ref a, rowD r, rfl, row_rep ha, ?_, fun H1 s1 => ⟨_, rfl, ?_⟩⟩
    · show (r.map PyData.int).length ≤ 1000
      rw [List.length_map]
      exact ln
    · rw [isRow_row (ok r List.mem_cons_self)]
      exact iteF (q H1 s1)
def sp_check_handB (K : PySem.W.Frag) : Sp := fun vs H Q _ => ∃ (b : Addr) (x : Str) (ns : List Str), vs = [.ref b, .str x] ∧ SqT K H b (ns.map V.str) ∧ x ∈ ns ∧ Q .non H
theorem ok_check_handB (T : Top K mg) : Ok P w K mg base 1 "check_hand" ["there", "hand"] (sp_check_handB K) := by
  refine T.d_check_hand.ok sc_check_hand (fun vs H Q E h => ?_) (fun f cdv A outer s H vs Q E hr h => ?_)
  · obtain ⟨b, x, ns, rfl, _⟩ := h
    rfl
  · obtain ⟨b, x, ns, rfl, hb, mx, q⟩ := h
    refine ⟨_, ((pss_one (ps_if (pt_cmpR op_notIn_seq (pv 1) (pv 0) (by rfl))
        (pss_one ps_dead)
        pss_nil))), ?_⟩
    refine ⟨.str x, rfl, .ref b, rfl, b, _, rfl, .inr hb, rfl, flat_strs ns, _, rfl, ?_⟩
    rw [show (if true = true then !inV (V.str x) (ns.map V.str) else inV (V.str x) (ns.map V.str)) = !decide (x ∈ ns) from congrArg (fun z => !z) (in_strs x ns), decide_eq_true mx]
    exact iteF q
theorem alike_names (ns : List Str) : W.AllAlike (ns.map PyData.str) := fun d hd d' hd' => by
  obtain ⟨x, _, rfl⟩ := List.mem_map.mp hd
  obtain ⟨y, _, rfl⟩ := List.mem_map.mp hd'
  rfl
def sp_are_names (K : PySem.W.Frag) : Sp := fun vs H Q _ => ∃ (b : Addr) (ns : List Str), vs = [.ref b] ∧ SqT K H b (ns.map V.str) ∧ (∀ x ∈ ns, NameOk x) ∧ ns.Pairwise sl ∧ ns.length ≤ 100 ∧ ∀ H', Same H H' → Q (.bl true) H'
theorem ok_are_names (T : Top K mg) : Ok P w K mg base 2 "are_names" ["thing"] (sp_are_names K) := by
  have O_is_name := ok_is_name (P := P) (w := w) (base := base) T
  have O_is_rising := ok_is_rising (P := P) (w := w) (base := base) T
  refine T.d_are_names.ok sc_are_names (fun vs H Q E h => ?_) (fun f cdv A outer s H vs Q E hr h => ?_)
  · obtain ⟨b, ns, rfl, _⟩ := h
    rfl
  · obtain ⟨b, ns, rfl, hb, nm, srt, l1, q⟩ := h
    refine ⟨_, ((pss_one (ps_ret (pe_and (pe_callB call_isi (by rfl) T.b_isinstance (by decide +kernel) (pa_cons (pv 0) (pa_cons (pe_bltn (v := .ty "tuple") (u := .type "tuple") (by rfl) T.b_tuple (by decide +kernel) rfl) pa_nil))) (pe_and (pe_callB (cr_all (by rfl)) (by rfl) T.b_all (by decide +kernel) (pa_cons (pe_lc (own := [("part", 1)]) (g := gName 1) (by rfl) sc_are_names.nd (pi_tup (pv 0)) (blkOk_by (own := [("part", 1)]) (N := N_are_names) (sc := defScope s_are_names) (by decide +kernel)) (fun _ _ _ _ _ => (pg_name (i := 1) sc_are_names.nd rfl (.inl rfl))) (fun _ _ _ _ _ => pts_nil) (fun _ _ _ _ _ => (pe_callO O_is_name (hr.mono (by omega)) (by rfl) (pa_cons (pv 1) pa_nil)))) pa_nil)) (pe_one (pe_callO O_is_rising (hr.mono (by omega)) (by rfl) (pa_cons (pv 0) pa_nil)))))))), ?_⟩
    refine ⟨.ref b, rfl, .ref b, .ty "tuple", _, _, _, rfl, .ty "tuple", kd_tup hb, kit_tuple _, _, rfl, iteT ?_⟩
    refine ⟨.ref b, rfl, b, rfl, ⟨_, hb⟩, fun D nD => lc_it (walk_tup (K := K) (a := b) (xs := ns.map V.str)) (fun i H' => Same H H' ∧ H' D = some (.lst ((List.replicate i true).map V.bl))) ⟨same_upd nD, upd_same⟩ (fun i H' _ hP => Same.tup hP.1 hb) (fun i x Ha Hb hi hP hY => ?_) (fun H3 hP => ?_)⟩
    · obtain ⟨rfl, hx⟩ := hY
      obtain ⟨s1, eD⟩ := hP
      rw [List.getElem?_map] at hx
      obtain ⟨x, gx, rfl⟩ := Option.map_eq_some_iff.mp hx
      have hi : i < ns.length := (List.getElem?_eq_some_iff.mp gx).1
      have nmx := nm x (List.mem_of_getElem? gx)
      refine ⟨rfl, .str x, rfl, .str x, .str x, NB, rfl, .str x, fun z hz => by injection hz with hz; rw [← hz]; exact Nat.le_trans nmx.2.1 (by decide), fun H4 s4 => ?_⟩
      rw [nameB_ok nmx]
      refine ⟨_, s4 _ _ eD, ?_, same_mut (s1.trans s4) nD, ?_⟩
      · rw [List.length_map, List.length_replicate]
        exact small1000 (by omega)
      · rw [upd_same, List.replicate_succ', List.map_append]
        rfl
    · obtain ⟨s3, eD⟩ := hP
      refine ⟨D, _, rfl, .inl (.inl eD), true, by simp, iteT ?_⟩
      refine ⟨.ref b, rfl, b, _, ns.map PyData.str, rfl, Same.tup s3 hb, dpAll_strs ns, alike_names ns, fun d hd => ?_, by rw [List.length_map]; omega, fun H4 s4 => ?_⟩
      · obtain ⟨x, _, rfl⟩ := List.mem_map.mp hd
        exact ⟨fun z => (nomatch z), by simp only [PyData.depth]; omega⟩
      · rw [(ris_strs ns).mpr srt]
        exact q H4 (s3.trans s4)
def sp_check_hands (K : PySem.W.Frag) : Sp := fun vs H Q _ => ∃ (a b : Addr) (ns ms : List Str) (k : Int), vs = [.ref a, .ref b, .int k] ∧ SqT K H a (ns.map V.str) ∧ SqT K H b (ms.map V.str) ∧ (∀ x ∈ ms, NameOk x) ∧ ms.Pairwise sl ∧ ms.length ≤ 100 ∧ k ≤ ms.length ∧ (∀ x ∈ ms, x ∈ ns) ∧ ∀ H', Same H H' → Q .non H'
theorem ok_check_hands (T : Top K mg) : Ok P w K mg base 3 "check_hands" ["there", "hands", "least"] (sp_check_hands K) := by
  have O_are_names := ok_are_names (P := P) (w := w) (base := base) T
  have O_check_hand := ok_check_handB (P := P) (w := w) (base := base) T
  refine T.d_check_hands.ok sc_check_hands (fun vs H Q E h => ?_) (fun f cdv A outer s H vs Q E hr h => ?_)
  · obtain ⟨a, b, ns, ms, k, rfl, _⟩ := h
    rfl
  · obtain ⟨a, b, ns, ms, k, rfl, ha, hb, nm, srt, l1, lk, inn, q⟩ := h
    refine ⟨_, ((pss_cons (ps_if (PW.pt (pw_or (pt_not (pt_val (pe_callO O_are_names (hr.mono (by omega)) (by rfl) (pa_cons (pv 1) pa_nil)))) (pw_or1 (pt_cmpR op_lt (pe_callB call_len_seq (by rfl) T.b_len (by decide +kernel) (pa_cons (pv 1) pa_nil)) (pv 2) (nomark _)))))
        (pss_one ps_dead)
        pss_nil)
      (pss_one (ps_for PassesOwn.never (by rfl) (pi_tup (pv 1)) (pg_name (i := 3) sc_check_hands.nd rfl (.inl rfl))
        (pss_one (ps_expr (pe_callO O_check_hand (hr.mono (by omega)) (by rfl) (pa_cons (pv 0) (pa_cons (pv 3) pa_nil))))))))), ?_⟩
    refine ⟨.ref b, rfl, b, ms, rfl, hb, nm, srt, l1, fun H1 s1 => ⟨_, rfl, iteF ?_⟩⟩
    have hb1 := Same.tup s1 hb
    refine ⟨.ref b, rfl, b, _, rfl, .inr hb1, .int k, rfl, _, _, rfl, rfl, _, rfl, ?_⟩
    rw [decide_eq_false (show ¬ (((ms.map V.str).length : Int) < k) by rw [List.length_map]; omega)]
    refine iteF ⟨.ref b, rfl, b, rfl, ⟨_, hb1⟩, for_it (walk_tup (K := K) (a := b) (xs := ms.map V.str)) (fun i σ H' => Same H H' ∧ ∃ y3 : Option V, σ = [some (.ref a), some (.ref b), some (.int k), y3]) ⟨s1, none, rfl⟩ (fun i σ H' _ hW => Same.tup hW.1 hb) (fun i x σ H2 H3 hi hW hY => ?_) (fun σ H2 hW => ?_)⟩
    · obtain ⟨rfl, hx⟩ := hY
      obtain ⟨s2, y3, rfl⟩ := hW
      rw [List.getElem?_map] at hx
      obtain ⟨x, gx, rfl⟩ := Option.map_eq_some_iff.mp hx
      exact ⟨.ref a, rfl, .str x, rfl, a, x, ns, rfl, Same.tup s2 ha, inn x (List.mem_of_getElem? gx), s2, _, rfl⟩
    · obtain ⟨s2, y3, rfl⟩ := hW
      exact q _ s2
/-- behind a call, behind a whisper -/
def callM (m : Mom) (r : List Int) : Mom := { m with called := m.called ++ [r], hands := m.hands.map fun h => (h.1, h.2 ++ [r]) }
def whisperM (m : Mom) (ns : List Str) (r : List Int) : Mom := { m with hands := m.hands.map fun h => if h.1 ∈ ns then (h.1, h.2 ++ [r]) else h }
theorem callM_names (m : Mom) (r : List Int) : (callM m r).hands.map Prod.fst = m.hands.map Prod.fst := by
  unfold callM
  rw [List.map_map]
  exact List.map_congr_left fun _ _ => rfl
theorem whisperM_names (m : Mom) (ns : List Str) (r : List Int) : (whisperM m ns r).hands.map Prod.fst = m.hands.map Prod.fst := by
  unfold whisperM
  rw [List.map_map]
  refine List.map_congr_left fun h _ => ?_
  show (if h.1 ∈ ns then (h.1, h.2 ++ [r]) else h).1 = h.1
  split <;> rfl
theorem callM_ok {B : Nat} {m : Mom} {r : List Int} (M : MomOk B m) (ok : RowsOk m.p m.n [r]) : MomOk (B + 1) (callM m r) where
  fld := M.fld
  p1 := M.p1
  n1 := M.n1
  n8 := M.n8
  okc := rowsOk_app M.okc ok
  okh := fun h hh => by
    obtain ⟨x, mx, rfl⟩ := List.mem_map.mp hh
    exact rowsOk_app (M.okh x mx) ok
  inn := fun h hh z hz => by
    obtain ⟨x, mx, rfl⟩ := List.mem_map.mp hh
    rcases List.mem_append.mp hz with hz | hz
    · exact InR.left (M.inn x mx z hz)
    · exact InR.mem (List.mem_append_right _ hz)
  few := by unfold callM; rw [List.length_map]; exact M.few
  many := by unfold callM; rw [List.length_map]; exact M.many
  srt := by rw [callM_names]; exact M.srt
  nd := by rw [callM_names]; exact M.nd
  nm := by rw [callM_names]; exact M.nm
  lc := by
    have := M.lc
    unfold callM
    rw [List.length_append, List.length_singleton]
    omega
  lh := fun h hh => by
    obtain ⟨x, mx, rfl⟩ := List.mem_map.mp hh
    have := M.lh x mx
    rw [List.length_append, List.length_singleton]
    omega
/-- the tuple of hands, each changed -/
theorem made_mom {H : Hp} {c h : Addr} {m' : Mom} {Q : VK} (hc : RowsAt K H c m'.called) (hh : Dp K H (.ref h) (.tuple (m'.hands.map handD))) (q : ∀ H' a, Same H H' → MomAt K mg H' a m' → Q (.ref a) H') :
    ∀ x dx, H x = none → H dx = none → dx ≠ x → sp_moment K mg (.ref x :: ([.int m'.p, .int (m'.n : Int), .ref c, .ref h] ++ [])) (upd (upd H dx (.own x)) x (.ins (adr mg "Moment") dx [])) (fun v H2 => v = .non ∧ Q (.ref x) H2) E0 := fun x dx nx ndx ne => by
  refine ⟨x, dx, c, h, m'.p, m'.n, rfl, upd_same, fun H' k e => ⟨rfl, ?_⟩⟩
  obtain ⟨s, at'⟩ := mom_made (m := m') nx ndx hc hh k e
  exact q H' x s at'
def sp_after_call (K : PySem.W.Frag) (mg : Str → Option Value) : Sp := fun vs H Q _ => ∃ (a b : Addr) (x : Str) (r : List Int) (m : Mom), vs = [.ref a, .str x, .ref b] ∧ MomAt K mg H a m ∧ MomOk 900 m ∧ SqT K H b (r.map V.int) ∧ RowsOk m.p m.n [r] ∧ x ∈ m.hands.map Prod.fst ∧ hasR m.p m.n (plainR m.p m.n (heardM m [x])) r = true ∧
  ∀ H' a', Same H H' → MomAt K mg H' a' (callM m r) → Q (.ref a') H'
theorem ok_after_call (T : Top K mg) : Ok P w K mg base 7 "after_call" ["moment", "hand", "row"] (sp_after_call K mg) := by
  have O_check_hand := ok_check_handB (P := P) (w := w) (base := base) T
  have O_names_at := ok_names_at (P := P) (w := w) (base := base) T
  have O_check_row := ok_check_rowB (P := P) (w := w) (base := base) T
  have O_within := ok_within (P := P) (w := w) (base := base) T
  have O_known_at := ok_known_at (P := P) (w := w) (base := base) T
  have O_Moment___init__ := ok_Moment___init__ (P := P) (w := w) (base := base) T
  refine T.d_after_call.ok sc_after_call (fun vs H Q E h => ?_) (fun f cdv A outer s H vs Q E hr h => ?_)
  · obtain ⟨a, b, x, r, m, rfl, _⟩ := h
    rfl
  · obtain ⟨a, b, x, r, m, rfl, ma, M, hb, ok, mx, has, q⟩ := h
    obtain ⟨dx, c, h, ea, hc, hh⟩ := id ma
    refine ⟨_, ((pss_cons (ps_expr (pe_callO O_check_hand (hr.mono (by omega)) (by rfl) (pa_cons (pe_callO O_names_at (hr.mono (by omega)) (by rfl) (pa_cons (pv 0) pa_nil)) (pa_cons (pv 1) pa_nil))))
      (pss_cons (ps_expr (pe_callO O_check_row (hr.mono (by omega)) (by rfl) (pa_cons (pe_fld (pv 0) (by rfl)) (pa_cons (pe_fld (pv 0) (by rfl)) (pa_cons (pv 2) pa_nil)))))
      (pss_cons (ps_if (pt_not (pt_val (pe_callO O_within (hr.mono (by omega)) (by rfl) (pa_cons (pe_fld (pv 0) (by rfl)) (pa_cons (pe_callO O_known_at (hr.mono (by omega)) (by rfl) (pa_cons (pv 0) (pa_cons (pe_tup (pa_cons (pv 1) pa_nil)) pa_nil))) (pa_cons (pv 2) pa_nil))))))
        (pss_one ps_dead)
        pss_nil)
      (pss_cons (ps_set (i := 5) sc_after_call.nd rfl (.inl rfl) (pe_callTy call_tuple_of (by rfl) T.b_tuple (by decide +kernel) (pa_cons (pe_lc (own := [("name", 3), ("rows", 4)]) (g := gTup K 2 (gCons (gName 3) (gCons (gName 4) gNil))) (by rfl) sc_after_call.nd (pi_tup (pe_fld (pv 0) (by rfl))) (blkOk_by (own := [("name", 3), ("rows", 4)]) (N := N_after_call) (sc := defScope s_after_call) (by decide +kernel)) (fun _ _ _ _ _ => (pg_tup (by rfl) (pgs_cons (pg_name (i := 3) sc_after_call.nd rfl (.inl rfl)) (pgs_cons (pg_name (i := 4) sc_after_call.nd rfl (.inl rfl)) pgs_nil)))) (fun _ _ _ _ _ => pts_nil) (fun _ _ _ _ _ => (pe_tup (pa_cons (pv 3) (pa_cons (pe_op (show OpR _ (binaryOp .Add) (rCatB K) from op_catB) (pv 4) (pe_tup (pa_cons (pv 2) pa_nil))) pa_nil))))) pa_nil)))
      (pss_one (ps_ret (pe_makeO O_Moment___init__ T.k_Moment (hr.mono (by omega)) (by rfl) (pa_cons (pe_fld (pv 0) (by rfl)) (pa_cons (pe_fld (pv 0) (by rfl)) (pa_cons (pe_op op_catB (pe_fld (pv 0) (by rfl)) (pe_tup (pa_cons (pv 2) pa_nil))) (pa_cons (pv 5) pa_nil)))))))))))), ?_⟩
    have many := M.many
    have n8 := M.n8
    have M1 := M.mono (show 900 ≤ 1000 by decide)
    have F1 : ∀ {H' : Hp}, Same H H' → H' a = some (.ins (adr mg "Moment") dx (momF m.p m.n c h)) := fun s => s _ _ ea
    refine ⟨.ref a, rfl, a, m, rfl, ma, by omega, fun H1 l1 s1 h1 => ?_⟩
    refine ⟨.str x, rfl, l1, x, _, rfl, h1, mx, ?_⟩
    refine ⟨.ref a, rfl, a, _, dx, _, _, rfl, F1 s1, T.k_Moment.cl, T.na_Moment_p, momF_p, .ref a, rfl, a, _, dx, _, _, rfl, F1 s1, T.k_Moment.cl, T.na_Moment_n, momF_n, .ref b, rfl, ?_⟩
    have lr := (ok r List.mem_cons_self).1
    refine ⟨b, r, m.p, m.n, rfl, Same.tup s1 hb, ok, by omega, fun H2 s2 => ?_⟩
    have s12 := s1.trans s2
    refine ⟨.ref a, rfl, a, _, dx, _, _, rfl, F1 s12, T.k_Moment.cl, T.na_Moment_p, momF_p, .ref a, rfl, .str x, rfl, sz1000 (by decide : (1 : Nat) ≤ 1000), fun o no => ?_⟩
    generalize h3 : upd H2 o _ = H3
    obtain ⟨s3, e3⟩ := new_of h3 no
    refine ⟨a, o, m, [x], rfl, ma.same (s12.trans s3), .inl (.inl e3), M1, fun H4 l4 s4 r4 => ?_⟩
    have s14 := s12.trans (s3.trans s4)
    refine ⟨.ref b, rfl, b, l4, _, r, m.p, m.n, rfl, r4, Same.tup s14 hb, PFR.of_plain M.fld (heard_ok M [x]), ok, M.fld, by omega, M.p1, fun H5 s5 => ⟨_, rfl, ?_⟩⟩
    rw [has]
    refine iteF ?_
    have s15 := s14.trans s5
    obtain ⟨wg, hg, dg, lg⟩ := mom_hands hh
    have hb5 := Same.tup s15 hb
    refine ⟨.ref a, rfl, a, _, dx, _, _, rfl, F1 s15, T.k_Moment.cl, T.na_Moment_hands, momF_hands, h, rfl, ⟨_, Same.tup s15 hg⟩, fun D nD => lc_it (walk_tup (K := K) (a := h) (xs := wg)) (fun i H' => Same H5 H' ∧ ∃ ws : List V, H' D = some (.lst ws) ∧ ws.length = i ∧ DpAll K H' ws (((callM m r).hands.take i).map handD)) ⟨same_upd nD, [], upd_same, rfl, .nil⟩ (fun i H' _ hP => Same.tup (s15.trans hP.1) hg) (fun i v Ha Hb hi hP hY => ?_) (fun H6 hP => ?_)⟩
    · obtain ⟨rfl, hx⟩ := hY
      obtain ⟨s6, ws, eD, lw, dl⟩ := hP
      have s16 := s15.trans s6
      obtain ⟨c', rr, y, rfl, gy, my, hc', hrr⟩ := dpAll_hand (dpAll_same s16 _ _ dg) hx
      refine ⟨c', _, rfl, hc', rfl, _, _, rfl, _, _, rfl, rfl, rfl, .str y.1, rfl, .ref rr, rfl, .ref b, rfl, sz1000 (by decide : (1 : Nat) ≤ 1000), fun o7 no7 => ?_⟩
      generalize h7 : upd _ o7 _ = H7
      obtain ⟨s7, e7⟩ := new_of h7 no7
      obtain ⟨w2, hr1, hr2⟩ := hrr
      have l2 := rows_len hr2
      have ly := M.lh y my
      refine ⟨rr, o7, _, _, rfl, rfl, Same.tup s7 hr1, .inl (.inl e7), sz1000 (by simp only [List.length_cons, List.length_nil]; omega), fun z8 H8 s8 h8 => ?_⟩
      refine ⟨sz1000 (by decide : (2 : Nat) ≤ 1000), fun z9 nz9 => ?_⟩
      generalize h9 : upd H8 z9 _ = H9
      obtain ⟨s9, e9⟩ := new_of h9 nz9
      have s79 := s7.trans (s8.trans s9)
      have eD9 := s79 _ _ eD
      have hi : i < m.hands.length := (List.getElem?_eq_some_iff.mp gy).1
      have tk := (Tk.refl H9).mut eD9 (ys := ws ++ [.ref z9])
      refine ⟨ws, eD9, small1000 (by omega), same_mut (s6.trans s79) nD, ws ++ [.ref z9], upd_same, by rw [List.length_append, lw]; rfl, ?_⟩
      have gr : (callM m r).hands[i]? = some (y.1, y.2 ++ [r]) := by
        unfold callM
        rw [List.getElem?_map, gy]
        rfl
      rw [List.take_add_one, gr, List.map_append]
      refine dpAll_append (dpAll_tk tk _ _ (noL_hands _) (dpAll_same s79 _ _ dl)) (.cons (.tup (tk _ _ _ (.inl (.inl e9))) (.cons (.str _) (.cons (.tup (tk _ _ _ (Same.tup s9 h8)) ?_) .nil))) .nil)
      rw [List.map_append]
      exact dpAll_append (dpAll_tk tk _ _ (noL_rows _) (dpAll_same s79 _ _ hr2)) (.cons (row_dp (tk _ _ _ (Same.tup (s16.trans s79) hb))) .nil)
    · obtain ⟨s6, ws, eD, lw, dl⟩ := hP
      have lr2 : (callM m r).hands.length = m.hands.length := by unfold callM; rw [List.length_map]
      rw [List.take_of_length_le (by omega)] at dl
      refine ⟨D, _, rfl, .inl ⟨.inl (.inl eD), fun t nt => ?_⟩⟩
      generalize h7 : upd H6 t _ = H7
      obtain ⟨s7, e7⟩ := new_of h7 nt
      have s17 := s15.trans (s6.trans s7)
      refine ⟨.ref a, rfl, a, _, dx, _, _, rfl, F1 s17, T.k_Moment.cl, T.na_Moment_p, momF_p, .ref a, rfl, a, _, dx, _, _, rfl, F1 s17, T.k_Moment.cl, T.na_Moment_n, momF_n, ?_⟩
      refine ⟨.ref a, rfl, a, _, dx, _, _, rfl, F1 s17, T.k_Moment.cl, T.na_Moment_called, momF_called, .ref b, rfl, sz1000 (by decide : (1 : Nat) ≤ 1000), fun o8 no8 => ?_⟩
      generalize h8 : upd H7 o8 _ = H8
      obtain ⟨s8, e8⟩ := new_of h8 no8
      obtain ⟨wc, hwc, dwc⟩ := hc
      have lwc := rows_len dwc
      have lc := M.lc
      have s18 := s17.trans s8
      refine ⟨c, o8, _, _, rfl, rfl, Same.tup s18 hwc, .inl (.inl e8), sz1000 (by simp only [List.length_cons, List.length_nil]; omega), fun z9 H9 s9 h9 => ?_⟩
      have s19 := s18.trans s9
      refine ⟨.ref t, rfl, made_mom (m' := callM m r) ⟨_, h9, ?_⟩ (.tup (.inl (.inl ((s8.trans s9) _ _ e7))) (dpAll_same (s7.trans (s8.trans s9)) _ _ dl)) fun H' a' s' at' => q H' a' (s19.trans s') at'⟩
      show DpAll K H9 _ ((m.called ++ [r]).map rowD)
      rw [List.map_append]
      exact dpAll_append (dpAll_same s19 _ _ dwc) (.cons (row_dp (Same.tup s19 hb)) .nil)
def sp_after_whisper (K : PySem.W.Frag) (mg : Str → Option Value) : Sp := fun vs H Q _ => ∃ (a b c : Addr) (ns : List Str) (r : List Int) (m : Mom), vs = [.ref a, .ref c, .ref b] ∧ MomAt K mg H a m ∧ MomOk 900 m ∧ SqT K H b (r.map V.int) ∧ RowsOk m.p m.n [r] ∧ SqT K H c (ns.map V.str) ∧ ns.Pairwise sl ∧ 1 ≤ ns.length ∧ ns.length ≤ 100 ∧ (∀ x ∈ ns, x ∈ m.hands.map Prod.fst) ∧
  ∀ H' a', Same H H' → MomAt K mg H' a' (whisperM m ns r) → Q (.ref a') H'
theorem ok_after_whisper (T : Top K mg) : Ok P w K mg base 7 "after_whisper" ["moment", "hands", "row"] (sp_after_whisper K mg) := by
  have O_check_hands := ok_check_hands (P := P) (w := w) (base := base) T
  have O_names_at := ok_names_at (P := P) (w := w) (base := base) T
  have O_check_row := ok_check_rowB (P := P) (w := w) (base := base) T
  have O_Moment___init__ := ok_Moment___init__ (P := P) (w := w) (base := base) T
  refine T.d_after_whisper.ok sc_after_whisper (fun vs H Q E h => ?_) (fun f cdv A outer s H vs Q E hr h => ?_)
  · obtain ⟨a, b, c, ns, r, m, rfl, _⟩ := h
    rfl
  · obtain ⟨a, b, cn, ns, r, m, rfl, ma, M, hb, ok, hn, srt, n1, n100, inn, q⟩ := h
    obtain ⟨dx, c, h, ea, hc, hh⟩ := id ma
    refine ⟨_, ((pss_cons (ps_expr (pe_callO O_check_hands (hr.mono (by omega)) (by rfl) (pa_cons (pe_callO O_names_at (hr.mono (by omega)) (by rfl) (pa_cons (pv 0) pa_nil)) (pa_cons (pv 1) (pa_cons pe_int pa_nil)))))
      (pss_cons (ps_expr (pe_callO O_check_row (hr.mono (by omega)) (by rfl) (pa_cons (pe_fld (pv 0) (by rfl)) (pa_cons (pe_fld (pv 0) (by rfl)) (pa_cons (pv 2) pa_nil)))))
      (pss_cons (ps_setLc (i := 5) (own := [("name", 3), ("rows", 4)]) (g := gTup K 2 (gCons (gName 3) (gCons (gName 4) gNil))) (by rfl) sc_after_whisper.nd rfl rfl (sw_true rfl rfl rfl (by decide +kernel)) (pi_tup (pe_fld (pv 0) (by rfl))) (blkOk_by (own := [("name", 3), ("rows", 4)]) (N := N_after_whisper) (sc := defScope s_after_whisper) (by decide +kernel)) (fun _ _ _ _ _ => (pg_tup (by rfl) (pgs_cons (pg_name (i := 3) sc_after_whisper.nd rfl (.inl rfl)) (pgs_cons (pg_name (i := 4) sc_after_whisper.nd rfl (.inl rfl)) pgs_nil)))) (fun _ _ _ _ _ => pts_nil) (fun _ _ _ _ _ => (pe_tup (pa_cons (pv 3) (pa_cons (pe_ifExp (pt_cmpR (show OpR _ (compareOp .In) (rIn K false) from op_in_seq) (pv 3) (pv 1) (by rfl)) (pe_op (show OpR _ (binaryOp .Add) (rCatB K) from op_catB) (pv 4) (pe_tup (pa_cons (pv 2) pa_nil))) (pv 4)) pa_nil)))))
      (pss_one (ps_ret (pe_makeO O_Moment___init__ T.k_Moment (hr.mono (by omega)) (by rfl) (pa_cons (pe_fld (pv 0) (by rfl)) (pa_cons (pe_fld (pv 0) (by rfl)) (pa_cons (pe_fld (pv 0) (by rfl)) (pa_cons (pe_callTy call_tuple_of (by rfl) T.b_tuple (by decide +kernel) (pa_cons (pv 5) pa_nil)) pa_nil))))))))))), ?_⟩
    have many := M.many
    have n8 := M.n8
    have F1 : ∀ {H' : Hp}, Same H H' → H' a = some (.ins (adr mg "Moment") dx (momF m.p m.n c h)) := fun s => s _ _ ea
    refine ⟨.ref a, rfl, a, m, rfl, ma, by omega, fun H1 l1 s1 h1 => ?_⟩
    refine ⟨.ref cn, rfl, l1, cn, _, ns, 1, rfl, h1, Same.tup s1 hn, fun x hx => M.nm x (inn x hx), srt, n100, by omega, inn, fun H1' s1' => ?_⟩
    have s11 := s1.trans s1'
    refine ⟨.ref a, rfl, a, _, dx, _, _, rfl, F1 s11, T.k_Moment.cl, T.na_Moment_p, momF_p, .ref a, rfl, a, _, dx, _, _, rfl, F1 s11, T.k_Moment.cl, T.na_Moment_n, momF_n, .ref b, rfl, ?_⟩
    have lr := (ok r List.mem_cons_self).1
    refine ⟨b, r, m.p, m.n, rfl, Same.tup s11 hb, ok, by omega, fun H5 s5 => ?_⟩
    have s15 := s11.trans s5
    obtain ⟨wg, hg, dg, lg⟩ := mom_hands hh
    refine ⟨.ref a, rfl, a, _, dx, _, _, rfl, F1 s15, T.k_Moment.cl, T.na_Moment_hands, momF_hands, h, rfl, ⟨_, Same.tup s15 hg⟩, fun D nD => lc_it (walk_tup (K := K) (a := h) (xs := wg)) (fun i H' => Same H5 H' ∧ ∃ ws : List V, H' D = some (.lst ws) ∧ ws.length = i ∧ DpAll K H' ws (((whisperM m ns r).hands.take i).map handD)) ⟨same_upd nD, [], upd_same, rfl, .nil⟩ (fun i H' _ hP => Same.tup (s15.trans hP.1) hg) (fun i v Ha Hb hi hP hY => ?_) (fun H6 hP => ?_)⟩
    · obtain ⟨rfl, hx⟩ := hY
      obtain ⟨s6, ws, eD, lw, dl⟩ := hP
      have s16 := s15.trans s6
      obtain ⟨c', rr, y, rfl, gy, my, hc', hrr⟩ := dpAll_hand (dpAll_same s16 _ _ dg) hx
      obtain ⟨w2, hr1, hr2⟩ := hrr
      have l2 := rows_len hr2
      have ly := M.lh y my
      have hi : i < m.hands.length := (List.getElem?_eq_some_iff.mp gy).1
      refine ⟨c', _, rfl, hc', rfl, _, _, rfl, _, _, rfl, rfl, rfl, .str y.1, rfl, .str y.1, rfl, .ref cn, rfl, cn, _, rfl, .inr (Same.tup s16 hn), rfl, flat_strs ns, _, rfl, ?_⟩
      rw [show (if false = true then !inV (V.str y.1) (ns.map V.str) else inV (V.str y.1) (ns.map V.str)) = decide (y.1 ∈ ns) from in_strs y.1 ns]
      -- the hand's new pair
      have fin : ∀ {H8 : Hp} (z8 : Addr) (rs : List (List Int)) (w8 : List V), (Same Hb H8) → SqT K H8 z8 w8 → DpAll K H8 w8 (rs.map rowD) → (whisperM m ns r).hands[i]? = some (y.1, rs) → ∀ {H9 : Hp} (z9 : Addr), Same H8 H9 → H9 z9 = some (.tup [.str y.1, .ref z8]) →
          ∃ acc, H9 D = some (.lst acc) ∧ acc.length < sizeLine ∧ (Same H5 (upd H9 D (.lst (acc ++ [.ref z9]))) ∧ ∃ ws : List V, (upd H9 D (.lst (acc ++ [.ref z9]))) D = some (.lst ws) ∧ ws.length = i + 1 ∧ DpAll K (upd H9 D (.lst (acc ++ [.ref z9]))) ws (((whisperM m ns r).hands.take (i + 1)).map handD)) := fun {H8} z8 rs w8 s8 h8 d8 gr {H9} z9 s9 e9 => by
        have s79 := s8.trans s9
        have eD9 := s79 _ _ eD
        have tk := (Tk.refl H9).mut eD9 (ys := ws ++ [.ref z9])
        refine ⟨ws, eD9, small1000 (by omega), same_mut (s6.trans s79) nD, ws ++ [.ref z9], upd_same, by rw [List.length_append, lw]; rfl, ?_⟩
        rw [List.take_add_one, gr, List.map_append]
        exact dpAll_append (dpAll_tk tk _ _ (noL_hands _) (dpAll_same s79 _ _ dl)) (.cons (.tup (tk _ _ _ (.inl (.inl e9))) (.cons (.str _) (.cons (.tup (tk _ _ _ (Same.tup s9 h8)) (dpAll_tk tk _ _ (noL_rows _) (dpAll_same s9 _ _ d8))) .nil))) .nil)
      have gr : (whisperM m ns r).hands[i]? = some (if y.1 ∈ ns then (y.1, y.2 ++ [r]) else y) := by
        unfold whisperM
        rw [List.getElem?_map, gy]
        rfl
      by_cases hm : y.1 ∈ ns
      · rw [if_pos hm] at gr
        rw [decide_eq_true hm]
        refine iteT ⟨.ref rr, rfl, .ref b, rfl, sz1000 (by decide : (1 : Nat) ≤ 1000), fun o7 no7 => ?_⟩
        generalize h7 : upd _ o7 _ = H7
        obtain ⟨s7, e7⟩ := new_of h7 no7
        refine ⟨rr, o7, _, _, rfl, rfl, Same.tup s7 hr1, .inl (.inl e7), sz1000 (by simp only [List.length_cons, List.length_nil]; omega), fun z8 H8 s8 h8 => ?_⟩
        refine ⟨sz1000 (by decide : (2 : Nat) ≤ 1000), fun z9 nz9 => ?_⟩
        generalize h9 : upd H8 z9 _ = H9
        obtain ⟨s9, e9⟩ := new_of h9 nz9
        refine fin z8 (y.2 ++ [r]) _ (s7.trans s8) h8 ?_ gr z9 s9 e9
        rw [List.map_append]
        exact dpAll_append (dpAll_same (s7.trans s8) _ _ hr2) (.cons (row_dp (Same.tup (s16.trans (s7.trans s8)) hb)) .nil)
      · rw [if_neg hm] at gr
        rw [decide_eq_false hm]
        refine iteF ⟨.ref rr, rfl, sz1000 (by decide : (2 : Nat) ≤ 1000), fun z9 nz9 => ?_⟩
        generalize h9 : upd _ z9 _ = H9
        obtain ⟨s9, e9⟩ := new_of h9 nz9
        exact fin rr y.2 _ (Same.refl _) hr1 hr2 gr z9 s9 e9
    · obtain ⟨s6, ws, eD, lw, dl⟩ := hP
      have lr2 : (whisperM m ns r).hands.length = m.hands.length := by unfold whisperM; rw [List.length_map]
      rw [List.take_of_length_le (by omega)] at dl
      have s17 := s15.trans s6
      refine ⟨.ref a, rfl, a, _, dx, _, _, rfl, F1 s17, T.k_Moment.cl, T.na_Moment_p, momF_p, .ref a, rfl, a, _, dx, _, _, rfl, F1 s17, T.k_Moment.cl, T.na_Moment_n, momF_n, ?_⟩
      refine ⟨.ref a, rfl, a, _, dx, _, _, rfl, F1 s17, T.k_Moment.cl, T.na_Moment_called, momF_called, .ref D, rfl, D, _, rfl, .inl ⟨.inl (.inl eD), fun t nt => ?_⟩⟩
      generalize h7 : upd H6 t _ = H7
      obtain ⟨s7, e7⟩ := new_of h7 nt
      exact made_mom (m' := whisperM m ns r) (RowsAt.same (s17.trans s7) hc) (.tup (.inl (.inl e7)) (dpAll_same s7 _ _ dl)) fun H' a' s' at' => q H' a' (s17.trans (s7.trans s')) at'
/-- the steps, by their words -/
structure StepsW (w : World) (K : PySem.W.Frag) (mg : Str → Option Value) : Prop where
  g_STEPS : mg "STEPS" = some (.ref (adr mg "STEPS"))
  at_ : ∀ x f : Str, (x, f) ∈ ([("call", "after_call"), ("whisper", "after_whisper"), ("meet", "after_meet"), ("hide", "after_hide"), ("change", "after_change"), ("come", "after_come"), ("go", "after_go")] : List (Str × Str)) → KDct K w (adr mg "STEPS") x (.ref (adr mg f))
def sp_after (K : PySem.W.Frag) (S : Str → Sp → Prop) : Sp := fun vs H Q _ => ∃ (a t : Addr) (x : Str) (xs : List V) (sp : Sp), vs = [.ref a, .ref t] ∧ SqT K H t (.str x :: xs) ∧ S x sp ∧ ∀ H', Same H H' → sp (.ref a :: xs) H' Q E0
theorem ok_after (T : Top K mg) (W : StepsW w K mg) {S : Str → Sp → Prop} (hS : ∀ x sp, S x sp → ∃ f, KDct K w (adr mg "STEPS") x (.ref f) ∧ HeldR P w K mg base 9 f sp) : Ok P w K mg base 10 "after" ["moment", "deed"] (sp_after K S) := by
  refine T.d_after.ok sc_after (fun vs H Q E h => ?_) (fun f cdv A outer s H vs Q E hr h => ?_)
  · obtain ⟨a, t, x, xs, sp, rfl, _⟩ := h
    rfl
  · obtain ⟨a, t, x, xs, sp, rfl, ht, hs, q⟩ := h
    refine ⟨_, ((pss_cons (ps_set (i := 2) sc_after.nd rfl (.inl rfl) (pe_ix ix_kdict (pe_glob (v := .ref _) (by rfl) W.g_STEPS rfl) (pe_ix ix_tup (pv 1) pe_int (fun _ _ => rfl)) (fun _ _ => rfl)))
      (pss_cons (ps_set (i := 3) sc_after.nd rfl (.inl rfl) (pe_slice sl_tupB (pv 1) (po_some pe_int) po_none))
      (pss_one (ps_ret (pe_callLS (k := 9) (hr.mono (by omega)) (i := 2) (by rfl) (.inl rfl) (pa_cons (pv 0) (StX.pa_star (pv 3) pa_nil)))))))), ?_⟩
    obtain ⟨f, kd, hf⟩ := hS x sp hs
    refine ⟨.ref t, rfl, t, _, 0, .str x, rfl, rfl, ht, atI_nat (j := 0) rfl, adr mg "STEPS", x, .ref f, rfl, rfl, kd, ?_⟩
    refine ⟨.ref t, rfl, 1, rfl, t, _, rfl, ht, fun b2 H2 s2 h2 => ?_⟩
    rw [cut1] at h2
    exact ⟨f, sp, rfl, hf, .ref a, rfl, .ref b2, rfl, b2, xs, rfl, .inl h2, by
      have z := q H2 s2
      show sp (.ref a :: (xs ++ [])) H2 _ E0
      rw [List.append_nil]
      exact z⟩
def sp_now (K : PySem.W.Frag) (mg : Str → Option Value) : Sp := fun vs H Q _ => ∃ (b : Addr) (q : BookS), vs = [.ref b] ∧ BookAt K mg H b q ∧ ∀ a m, q.moms[q.moms.length - 1]? = some m → MomAt K mg H a m → Q (.ref a) H
theorem atI_last {ws : List V} {v : V} (g : ws[ws.length - 1]? = some v) (h : 0 < ws.length) : atI ws (-1) = some v := by
  unfold atI ixN
  rw [if_neg (by decide), if_pos (by omega)]
  show ws[((-1 : Int) + (ws.length : Int)).toNat]? = some v
  rw [show ((-1 : Int) + (ws.length : Int)).toNat = ws.length - 1 by omega]
  exact g
theorem last_mom {H : Hp} {vs : List V} {q : BookS} (h2 : MomsAt K mg H vs q.moms) (l : q.moms.length = q.deeds.length + 1) : ∃ a m, q.moms[q.moms.length - 1]? = some m ∧ atI vs (-1) = some (.ref a) ∧ MomAt K mg H a m := by
  have g : q.moms[q.moms.length - 1]? = some (q.moms[q.moms.length - 1]'(by omega)) := List.getElem?_eq_getElem (by omega)
  obtain ⟨a, ga, ha⟩ := h2.get g
  have lv := h2.len
  exact ⟨a, _, g, atI_last (by rw [lv]; exact ga) (by omega), ha⟩
theorem ok_Book_now (T : Top K mg) : OkM P w K mg base 1 "Book" "now" ["self"] [] (sp_now K mg) := by
  refine T.d_Book_now.ok sc_Book_now (fun vs H Q E h => ?_) (fun f cdv A outer s H vs Q E hr h => ?_)
  · obtain ⟨b, q, rfl, _⟩ := h
    rfl
  · obtain ⟨b, q, rfl, ⟨⟨dx, w', t, u, v, ws, eb, h1, h2, h3, h4, h5⟩, nd, len⟩, k⟩ := h
    refine ⟨_, ((pss_one (ps_ret (pe_ix ix_tup (pe_fld (pv 0) (by rfl)) (pe_un un_neg pe_int) (fun _ _ => rfl))))), ?_⟩
    obtain ⟨a, m, g, ha, hm⟩ := last_mom h2 len
    exact ⟨.ref b, rfl, b, _, dx, _, _, rfl, eb, T.k_Book.cl, T.na_Book_moments, bookF_moments, 1, rfl, t, _, -1, .ref a, rfl, rfl, h1, ha, k a m g hm⟩
def sp_amid (K : PySem.W.Frag) (mg : Str → Option Value) : Sp := fun vs H Q _ => ∃ (b : Addr) (q : BookS), vs = [.ref b] ∧ BookAt K mg H b q ∧ q.amid = false ∧ Q .non H
theorem ok_Book_refuse_amid (T : Top K mg) : OkM P w K mg base 1 "Book" "refuse_amid" ["self"] [] (sp_amid K mg) := by
  refine T.d_Book_refuse_amid.ok sc_Book_refuse_amid (fun vs H Q E h => ?_) (fun f cdv A outer s H vs Q E hr h => ?_)
  · obtain ⟨b, q, rfl, _⟩ := h
    rfl
  · obtain ⟨b, q, rfl, ⟨⟨dx, w', t, u, v, ws, eb, h1, h2, h3, h4, h5⟩, nd, len⟩, am, k⟩ := h
    refine ⟨_, ((pss_one (ps_if (pt_val (pe_fld (pv 0) (by rfl)))
        (pss_one ps_dead)
        pss_nil))), ?_⟩
    rw [am] at eb
    exact ⟨.ref b, rfl, b, _, dx, _, _, rfl, eb, T.k_Book.cl, T.na_Book_amid, bookF_amid, false, rfl, iteF k⟩
def sp_moment_at (K : PySem.W.Frag) (mg : Str → Option Value) : Sp := fun vs H Q _ => ∃ (b : Addr) (q : BookS) (v : V) (i : Nat), vs = [.ref b, v] ∧ BookAt K mg H b q ∧ AtIdx q v i ∧ ∀ a m, q.moms[i]? = some m → MomAt K mg H a m → Q (.ref a) H
theorem ok_Book_moment_at (T : Top K mg) : OkM P w K mg base 2 "Book" "moment_at" ["self", "at"] [] (sp_moment_at K mg) := by
  have O_Book_now := ok_Book_now (P := P) (w := w) (base := base) T
  have O_is_number := ok_is_number (P := P) (w := w) (base := base) T
  refine T.d_Book_moment_at.ok sc_Book_moment_at (fun vs H Q E h => ?_) (fun f cdv A outer s H vs Q E hr h => ?_)
  · obtain ⟨b, q, v, i, rfl, _⟩ := h
    rfl
  · obtain ⟨b, q, v, i, rfl, B, ⟨hi, hv⟩, k⟩ := h
    obtain ⟨⟨dx, w', t, u, v', ws, eb, h1, h2, h3, h4, h5⟩, nd, len⟩ := id B
    refine ⟨_, ((pss_cons (ps_if (pt_cmpR op_isN (pv 1) pe_non (nomark _))
        (pss_one (ps_ret (pe_methO0 O_Book_now T.k_Book (hr.mono (by omega)) (pv 0))))
        pss_nil)
      (pss_cons (ps_if (PW.pt (pw_or (pt_not (pt_val (pe_callO O_is_number (hr.mono (by omega)) (by rfl) (pa_cons (pv 1) pa_nil)))) (pw_or1 (pt_not (pt_chain op_le op_le pe_int (pv 1) (pe_callB call_len_seq (by rfl) T.b_len (by decide +kernel) (pa_cons (pe_fld (pv 0) (by rfl)) pa_nil)))))))
        (pss_one ps_dead)
        pss_nil)
      (pss_one (ps_ret (pe_ix ix_tup (pe_fld (pv 0) (by rfl)) (pv 1) (fun _ _ => rfl))))))), ?_⟩
    rcases hv with ⟨rfl, hl⟩ | rfl
    · refine ⟨.non, rfl, rfl, _, rfl, ?_⟩
      rw [decide_eq_true rfl]
      refine iteT ⟨.ref b, rfl, b, dx, _, rfl, eb, bookF_none (by decide +kernel) (by decide +kernel) (by decide +kernel) (by decide +kernel) (by decide +kernel), b, q, rfl, B, fun a m g hm => k a m ?_ hm⟩
      rw [show i = q.moms.length - 1 by omega]
      exact g
    · refine ⟨.int i, rfl, rfl, _, rfl, ?_⟩
      rw [decide_eq_false (fun z => nomatch z)]
      obtain ⟨m, gm⟩ : ∃ m, q.moms[i]? = some m := ⟨_, List.getElem?_eq_getElem hi⟩
      obtain ⟨a, ga, ha⟩ := h2.get gm
      obtain ⟨wu, hu, du, lu⟩ : ∃ wu, SqT K H u wu ∧ DpAll K H wu (q.deeds.map deedD) ∧ wu.length = q.deeds.length := by
        cases h3 with
        | tup a b =>
          have := dpAll_len b
          rw [List.length_map] at this
          exact ⟨_, a, b, this⟩
      refine iteF ⟨.int i, rfl, .int i, .int, rfl, kd_int _, _, rfl, iteF ?_⟩
      refine ⟨.int i, rfl, 0, _, rfl, rfl, _, rfl, ?_⟩
      rw [decide_eq_true (show (0 : Int) ≤ (i : Int) by omega)]
      refine iteT ⟨.ref b, rfl, b, _, dx, _, _, rfl, eb, T.k_Book.cl, T.na_Book_done, bookF_done, u, _, rfl, .inr hu, _, _, rfl, rfl, _, rfl, ?_⟩
      rw [decide_eq_true (show (i : Int) ≤ (wu.length : Int) by omega)]
      refine iteF ⟨.ref b, rfl, b, _, dx, _, _, rfl, eb, T.k_Book.cl, T.na_Book_moments, bookF_moments, .int i, rfl, t, _, i, .ref a, rfl, rfl, h1, atI_nat ga, k a m gm ha⟩
theorem deeds_of {H : Hp} {u : Addr} {ds : List Deed} (h : Dp K H (.ref u) (.tuple (ds.map deedD))) : ∃ wu, SqT K H u wu ∧ DpAll K H wu (ds.map deedD) ∧ wu.length = ds.length := by
  cases h with
  | tup a b =>
    have := dpAll_len b
    rw [List.length_map] at this
    exact ⟨_, a, b, this⟩
def sp_moment_of (K : PySem.W.Frag) (mg : Str → Option Value) : Sp := fun vs H Q _ => ∃ (b c : Addr) (q : BookS) (v : V) (i : Nat) (k : Int) (ns : List Str) (m : Mom), vs = [.ref b, .ref c, .int k, v] ∧ BookAt K mg H b q ∧ AtIdx q v i ∧ q.moms[i]? = some m ∧ MomOk 1000 m ∧ SqT K H c (ns.map V.str) ∧ ns.Pairwise sl ∧ k ≤ ns.length ∧ ns.length ≤ 100 ∧ (∀ x ∈ ns, x ∈ m.hands.map Prod.fst) ∧
  ∀ H' a, Same H H' → MomAt K mg H' a m → Q (.ref a) H'
theorem ok_Book_moment_of (T : Top K mg) : OkM P w K mg base 4 "Book" "moment_of" ["self", "hands", "least", "at"] [] (sp_moment_of K mg) := by
  have O_Book_moment_at := ok_Book_moment_at (P := P) (w := w) (base := base) T
  have O_check_hands := ok_check_hands (P := P) (w := w) (base := base) T
  have O_names_at := ok_names_at (P := P) (w := w) (base := base) T
  refine T.d_Book_moment_of.ok sc_Book_moment_of (fun vs H Q E h => ?_) (fun f cdv A outer s H vs Q E hr h => ?_)
  · obtain ⟨b, c, q, v, i, k, ns, m, rfl, _⟩ := h
    rfl
  · obtain ⟨b, c, q, v, i, k, ns, m, rfl, B, hi, gm, M, hc, srt, lk, l100, inn, k'⟩ := h
    obtain ⟨⟨dx, w', t, u, v', ws, eb, h1, h2, h3, h4, h5⟩, nd, len⟩ := id B
    refine ⟨_, ((pss_cons (ps_set (i := 4) sc_Book_moment_of.nd rfl (.inl rfl) (pe_methO O_Book_moment_at T.k_Book (hr.mono (by omega)) (pv 0) (pa_cons (pv 3) pa_nil)))
      (pss_cons (ps_expr (pe_callO O_check_hands (hr.mono (by omega)) (by rfl) (pa_cons (pe_callO O_names_at (hr.mono (by omega)) (by rfl) (pa_cons (pv 4) pa_nil)) (pa_cons (pv 1) (pa_cons (pv 2) pa_nil)))))
      (pss_one (ps_ret (pv 4)))))), ?_⟩
    have many := M.many
    refine ⟨.ref b, rfl, b, dx, _, rfl, eb, bookF_none (by decide +kernel) (by decide +kernel) (by decide +kernel) (by decide +kernel) (by decide +kernel), v, rfl, b, q, v, i, rfl, B, hi, fun a m' g hm => ?_⟩
    cases gm.symm.trans g
    refine ⟨.ref a, rfl, a, m, rfl, hm, by omega, fun H1 l s1 h1' => ?_⟩
    refine ⟨.ref c, rfl, .int k, rfl, l, c, _, ns, k, rfl, h1', Same.tup s1 hc, fun x hx => M.nm x (inn x hx), srt, l100, lk, inn, fun H2 s2 => ?_⟩
    exact ⟨.ref a, rfl, k' H2 a (s1.trans s2) (hm.same (s1.trans s2))⟩
def sp_bknown (K : PySem.W.Frag) (mg : Str → Option Value) : Sp := fun vs H Q _ => ∃ (b c : Addr) (q : BookS) (v : V) (i : Nat) (ns : List Str) (m : Mom), vs = [.ref b, .ref c, v] ∧ BookAt K mg H b q ∧ AtIdx q v i ∧ q.moms[i]? = some m ∧ MomOk 1000 m ∧ SqT K H c (ns.map V.str) ∧ ns.Pairwise sl ∧ ns.length ≤ 100 ∧ (∀ x ∈ ns, x ∈ m.hands.map Prod.fst) ∧
  ∀ H' l, Same H H' → RowsAt K H' l (plainR m.p m.n (heardM m ns)) → Q (.ref l) H'
theorem ok_Book_known (T : Top K mg) : OkM P w K mg base 7 "Book" "known" ["self", "hands", "at"] [.non] (sp_bknown K mg) := by
  have O_Book_moment_of := ok_Book_moment_of (P := P) (w := w) (base := base) T
  have O_known_at := ok_known_at (P := P) (w := w) (base := base) T
  refine T.d_Book_known.ok sc_Book_known (fun vs H Q E h => ?_) (fun f cdv A outer s H vs Q E hr h => ?_)
  · obtain ⟨b, c, q, v, i, ns, m, rfl, _⟩ := h
    rfl
  · obtain ⟨b, c, q, v, i, ns, m, rfl, B, hi, gm, M, hc, srt, l100, inn, k'⟩ := h
    obtain ⟨⟨dx, w', t, u, v', ws, eb, h1, h2, h3, h4, h5⟩, nd, len⟩ := id B
    refine ⟨_, ((pss_one (ps_ret (pe_callO O_known_at (hr.mono (by omega)) (by rfl) (pa_cons (pe_methO O_Book_moment_of T.k_Book (hr.mono (by omega)) (pv 0) (pa_cons (pv 1) (pa_cons pe_int (pa_cons (pv 2) pa_nil)))) (pa_cons (pv 1) pa_nil)))))), ?_⟩
    refine ⟨.ref b, rfl, b, dx, _, rfl, eb, bookF_none (by decide +kernel) (by decide +kernel) (by decide +kernel) (by decide +kernel) (by decide +kernel), .ref c, rfl, v, rfl, b, c, q, v, i, 0, ns, m, rfl, B, hi, gm, M, hc, srt, by omega, l100, inn, fun H1 a s1 hm => ?_⟩
    exact ⟨.ref c, rfl, a, c, m, ns, rfl, hm, Same.tup s1 hc, M, fun H2 l s2 r2 => k' H2 l (s1.trans s2) r2⟩
theorem xc_upd {H : Hp} {b : Addr} {o : HO} : Xc b H (upd H b o) := fun a o' h n => by rw [upd_ne n]; exact h
def sp_book (K : PySem.W.Frag) (mg : Str → Option Value) : Sp := fun vs H Q _ => ∃ (b dx h : Addr) (p : Int) (n : Nat) (hs : List (Str × List (List Int))), vs = [.ref b, .int p, .int (n : Int), .ref h] ∧ H b = some (.ins (adr mg "Book") dx []) ∧ Dp K H (.ref h) (.tuple (hs.map handD)) ∧
  ∀ H', Xc b H H' → BookAt K mg H' b ⟨.tuple [.int p, .int (n : Int), .tuple (hs.map handD)], [⟨p, n, [], hs⟩], [], [], false⟩ → Q .non H'
theorem ok_Book___init__ (T : Top K mg) : OkM P w K mg base 3 "Book" "__init__" ["self", "p", "n", "hands"] [] (sp_book K mg) := by
  have O_Moment___init__ := ok_Moment___init__ (P := P) (w := w) (base := base) T
  refine T.d_Book___init__.ok sc_Book___init__ (fun vs H Q E h => ?_) (fun f cdv A outer s H vs Q E hr h => ?_)
  · obtain ⟨b, dx, h, p, n, hs, rfl, _⟩ := h
    rfl
  · obtain ⟨b, dx, h, p, n, hs, rfl, hb, dh, q⟩ := h
    refine ⟨_, ((pss_cons (ps_fld (pv 0) (pe_tup (pa_cons (pv 1) (pa_cons (pv 2) (pa_cons (pv 3) pa_nil)))) (by rfl))
      (pss_cons (ps_fld (pv 0) (pe_tup (pa_cons (pe_makeO O_Moment___init__ T.k_Moment (hr.mono (by omega)) (by rfl) (pa_cons (pv 1) (pa_cons (pv 2) (pa_cons (pe_tup pa_nil) (pa_cons (pv 3) pa_nil))))) pa_nil)) (by rfl))
      (pss_cons (ps_fld (pv 0) (pe_tup pa_nil) (by rfl))
      (pss_cons (ps_fld (pv 0) (pe_tup pa_nil) (by rfl))
      (pss_one (ps_fld (pv 0) pe_bl (by rfl)))))))), ?_⟩
    refine ⟨.int p, rfl, .int (n : Int), rfl, .ref h, rfl, sz1000 (by decide : (3 : Nat) ≤ 1000), fun z1 nz1 => ?_⟩
    generalize h1 : upd H z1 _ = H1
    obtain ⟨s1, e1⟩ := new_of h1 nz1
    refine ⟨.ref b, rfl, b, _, dx, _, rfl, s1 _ _ hb, T.k_Book.cl, T.na_Book_made, by decide, ?_⟩
    have x1 : Xc b H1 (upd H1 b (.ins (adr mg "Book") dx (putF "made" (.ref z1) []))) := xc_upd
    have b1 := s1 _ _ hb
    have b2 : (upd H1 b (.ins (adr mg "Book") dx (putF "made" (.ref z1) []))) b = some (.ins (adr mg "Book") dx (putF "made" (.ref z1) [])) := upd_same
    generalize upd H1 b _ = H2 at x1 b2 ⊢
    refine ⟨.int p, rfl, .int (n : Int), rfl, Nat.zero_le _, fun z2 nz2 => ?_⟩
    generalize h3 : upd H2 z2 _ = H3
    obtain ⟨s3, e3⟩ := new_of h3 nz2
    have m1 : Mv mg H1 H3 := (x1.trans (Xc.of s3)).mvI b1 rfl
    refine ⟨.ref h, rfl, fun a da na nda ne => ⟨a, da, z2, h, p, n, rfl, upd_same, fun H4 k4 f4 => ⟨rfl, ?_⟩⟩⟩
    obtain ⟨s4, at4⟩ := mom_made (m := ⟨p, n, [], hs⟩) na nda ⟨[], .inl (.inl e3), .nil⟩ (dp_tk m1.tk _ _ (noL_handsT _) (dp_same s1 _ _ dh)) k4 f4
    refine ⟨sz1000 (by decide : (1 : Nat) ≤ 1000), fun z5 nz5 => ?_⟩
    generalize h5 : upd H4 z5 _ = H5
    obtain ⟨s5, e5⟩ := new_of h5 nz5
    have b5 := (s3.trans (s4.trans s5)) _ _ b2
    have x5 : Xc b H1 H5 := x1.trans (Xc.of (s3.trans (s4.trans s5)))
    refine ⟨.ref b, rfl, b, _, dx, _, rfl, b5, T.k_Book.cl, T.na_Book_moments, lp1, ?_⟩
    have np1 : (putF "made" (.ref z1) ([] : List (Str × V))).lookup ("p" : Str) = none := by rw [lookup_putF, if_neg (by decide +kernel)]; rfl
    have x6 : Xc b H5 (upd H5 b (.ins (adr mg "Book") dx (putF "moments" (.ref z5) (putF "made" (.ref z1) [])))) := xc_upd
    have b6 : (upd H5 b (.ins (adr mg "Book") dx (putF "moments" (.ref z5) (putF "made" (.ref z1) [])))) b = some (.ins (adr mg "Book") dx (putF "moments" (.ref z5) (putF "made" (.ref z1) []))) := upd_same
    generalize upd H5 b _ = H6 at x6 b6 ⊢
    refine ⟨Nat.zero_le _, fun z7 nz7 => ?_⟩
    generalize h7 : upd H6 z7 _ = H7
    obtain ⟨s7, e7⟩ := new_of h7 nz7
    have b7 := s7 _ _ b6
    refine ⟨.ref b, rfl, b, _, dx, _, rfl, b7, T.k_Book.cl, T.na_Book_done, lp2, ?_⟩
    have np2 : (putF "moments" (.ref z5) (putF "made" (.ref z1) ([] : List (Str × V)))).lookup ("p" : Str) = none := by rw [lookup_putF, if_neg (by decide +kernel)]; exact np1
    have x8 : Xc b H7 (upd H7 b (.ins (adr mg "Book") dx (putF "done" (.ref z7) (putF "moments" (.ref z5) (putF "made" (.ref z1) []))))) := xc_upd
    have b8 : (upd H7 b (.ins (adr mg "Book") dx (putF "done" (.ref z7) (putF "moments" (.ref z5) (putF "made" (.ref z1) []))))) b = some (.ins (adr mg "Book") dx (putF "done" (.ref z7) (putF "moments" (.ref z5) (putF "made" (.ref z1) [])))) := upd_same
    generalize upd H7 b _ = H8 at x8 b8 ⊢
    refine ⟨Nat.zero_le _, fun z9 nz9 => ?_⟩
    generalize h9 : upd H8 z9 _ = H9
    obtain ⟨s9, e9⟩ := new_of h9 nz9
    have b9 := s9 _ _ b8
    refine ⟨.ref b, rfl, b, _, dx, _, rfl, b9, T.k_Book.cl, T.na_Book_trials, lp3, ?_⟩
    have np3 : (putF "done" (.ref z7) (putF "moments" (.ref z5) (putF "made" (.ref z1) ([] : List (Str × V))))).lookup ("p" : Str) = none := by rw [lookup_putF, if_neg (by decide +kernel)]; exact np2
    refine ⟨.ref b, rfl, b, _, dx, _, rfl, upd_same, T.k_Book.cl, T.na_Book_amid, lp4, ?_⟩
    generalize he : upd (upd H9 b _) b _ = He
    have xe : Xc b H9 He := by rw [← he]; exact xc_upd.trans xc_upd
    have be : He b = some (.ins (adr mg "Book") dx (bookF z1 z5 z7 z9 false)) := by rw [← he]; exact upd_same
    have x78 := x8.trans ((Xc.of s9).trans xe)
    have x58 := x6.trans ((Xc.of s7).trans x78)
    have x18 := x5.trans x58
    have m18 : Mv mg H1 He := x18.mvI b1 rfl
    have m58 : Mv mg H5 He := x58.mvI b5 np1
    have m78 : Mv mg H7 He := x78.mvI b7 np2
    have m98 : Mv mg H9 He := xe.mvI b9 np3
    refine q He ((Xc.of s1).trans x18) ⟨⟨dx, z1, z5, z7, z9, [.ref a], be, m58.tk _ _ _ (.inl (.inl e5)), ⟨⟨a, rfl, (at4.same s5).mv m58⟩, trivial⟩, ?_, ?_, ?_⟩, ⟨?_, rfl⟩, rfl⟩
    · exact .tup (m78.tk _ _ _ (.inl (.inl e7))) .nil
    · exact .tup (m18.tk _ _ _ (.inl (.inl e1))) (.cons (.int p) (.cons (.int n) (.cons (dp_tk m18.tk _ _ (noL_handsT _) (dp_same s1 _ _ dh)) .nil)))
    · exact .tup (m98.tk _ _ _ (.inl (.inl e9))) .nil
    · show noL (.tuple [.int p, .int (n : Int), .tuple (hs.map handD)]) = true
      have := noL_hands hs
      simp only [noL, noLAll, this, Bool.and_true]
def sp_perform (K : PySem.W.Frag) (mg : Str → Option Value) (S : Str → Sp → Prop) : Sp := fun vs H Q _ => ∃ (b t : Addr) (q : BookS) (d : Deed) (x : Str) (xs : List V) (sp : Sp) (m m' : Mom), vs = [.ref b, .ref t] ∧ BookAt K mg H b q ∧ q.deeds.length < 60 ∧ SqT K H t (.str x :: xs) ∧ S x sp ∧ Dp K H (.ref t) (deedD d) ∧ q.moms[q.moms.length - 1]? = some m ∧
  (∀ a H' Q', Same H H' → MomAt K mg H' a m → (∀ H2 a', Same H' H2 → MomAt K mg H2 a' m' → Q' (.ref a') H2) → sp (.ref a :: xs) H' Q' E0) ∧ ∀ H', Xc b H H' → BookAt K mg H' b (q.push m' d) → Q .non H'
theorem ok_Book_perform (T : Top K mg) (W : StepsW w K mg) {S : Str → Sp → Prop} (hS : ∀ x sp, S x sp → ∃ f, KDct K w (adr mg "STEPS") x (.ref f) ∧ HeldR P w K mg base 9 f sp) : OkM P w K mg base 11 "Book" "perform" ["self", "deed"] [] (sp_perform K mg S) := by
  have O_Book_now := ok_Book_now (P := P) (w := w) (base := base) T
  have O_after := ok_after (P := P) (w := w) (base := base) T W hS
  refine T.d_Book_perform.ok sc_Book_perform (fun vs H Q E h => ?_) (fun f cdv A outer s H vs Q E hr h => ?_)
  · obtain ⟨b, t, q, d, x, xs, sp, m, m', rfl, _⟩ := h
    rfl
  · obtain ⟨b, t, q, d, x, xs, sp, m, m', rfl, B, few, ht, hs, dt, gm, hsp, k⟩ := h
    obtain ⟨⟨dx, w', t', u, v', ws, eb, h1, h2, h3, h4, h5⟩, nd, len⟩ := id B
    obtain ⟨wu, hu, du, lu⟩ := deeds_of h3
    refine ⟨_, ((pss_cons (ps_if (pt_cmpR op_ge (pe_callB call_len_seq (by rfl) T.b_len (by decide +kernel) (pa_cons (pe_fld (pv 0) (by rfl)) pa_nil)) (pe_cint T.c_DEEDS (by rfl)) (nomark _))
        (pss_one ps_dead)
        pss_nil)
      (pss_cons (ps_set (i := 2) sc_Book_perform.nd rfl (.inl rfl) (pe_callO O_after (hr.mono (by omega)) (by rfl) (pa_cons (pe_methO0 O_Book_now T.k_Book (hr.mono (by omega)) (pv 0)) (pa_cons (pv 1) pa_nil))))
      (pss_cons (ps_fld (pv 0) (pe_op op_catB (pe_fld (pv 0) (by rfl)) (pe_tup (pa_cons (pv 2) pa_nil))) (by rfl))
      (pss_one (ps_fld (pv 0) (pe_op op_catB (pe_fld (pv 0) (by rfl)) (pe_tup (pa_cons (pv 1) pa_nil))) (by rfl))))))), ?_⟩
    have ldu : decide ((60 : Int) ≤ (wu.length : Int)) = false := decide_eq_false (by omega)
    refine ⟨.ref b, rfl, b, _, dx, _, _, rfl, eb, T.k_Book.cl, T.na_Book_done, bookF_done, u, _, rfl, .inr hu, _, _, rfl, rfl, _, rfl, ?_⟩
    rw [ldu]
    refine iteF ?_
    refine ⟨.ref b, rfl, b, dx, _, rfl, eb, bookF_none (by decide +kernel) (by decide +kernel) (by decide +kernel) (by decide +kernel) (by decide +kernel), b, q, rfl, B, fun a ma gma hma => ?_⟩
    cases gm.symm.trans gma
    refine ⟨.ref t, rfl, a, t, x, xs, sp, rfl, ht, hs, fun H' sH => hsp a H' _ sH (hma.same sH) fun H2 a' s2 at2 => ?_⟩
    have s12 := sH.trans s2
    refine ⟨.ref b, rfl, b, _, dx, _, _, rfl, s12 _ _ eb, T.k_Book.cl, T.na_Book_moments, bookF_moments, .ref a', rfl, sz1000 (by decide : (1 : Nat) ≤ 1000), fun z3 nz3 => ?_⟩
    generalize h3' : upd H2 z3 _ = H3
    obtain ⟨s3, e3⟩ := new_of h3' nz3
    have lm := h2.len
    refine ⟨t', z3, _, _, rfl, rfl, Same.tup (s12.trans s3) h1, .inl (.inl e3), sz1000 (by simp only [List.length_cons, List.length_nil]; omega), fun z4 H4 s4 h4' => ?_⟩
    have s14 := s12.trans (s3.trans s4)
    refine ⟨.ref b, rfl, b, _, dx, _, rfl, s14 _ _ eb, T.k_Book.cl, T.na_Book_moments, by rw [bookF_len]; decide, ?_⟩
    rw [bookF_setMoments]
    have x5 : Xc b H4 (upd H4 b (.ins (adr mg "Book") dx (bookF w' z4 u v' q.amid))) := xc_upd
    have b5 : (upd H4 b (.ins (adr mg "Book") dx (bookF w' z4 u v' q.amid))) b = some (.ins (adr mg "Book") dx (bookF w' z4 u v' q.amid)) := upd_same
    generalize upd H4 b _ = H5 at x5 b5 ⊢
    have x15 : Xc b H H5 := (Xc.of s14).trans x5
    have m15 : Mv mg H H5 := x15.mv eb
    refine ⟨.ref b, rfl, b, _, dx, _, _, rfl, b5, T.k_Book.cl, T.na_Book_done, bookF_done, .ref t, rfl, sz1000 (by decide : (1 : Nat) ≤ 1000), fun z6 nz6 => ?_⟩
    generalize h6' : upd H5 z6 _ = H6
    obtain ⟨s6, e6⟩ := new_of h6' nz6
    refine ⟨u, z6, _, _, rfl, rfl, Same.tup s6 (m15.tk _ _ _ hu), .inl (.inl e6), sz1000 (by simp only [List.length_cons, List.length_nil]; omega), fun z7 H7 s7 h7' => ?_⟩
    have b7 := (s6.trans s7) _ _ b5
    refine ⟨.ref b, rfl, b, _, dx, _, rfl, b7, T.k_Book.cl, T.na_Book_done, by rw [bookF_len]; decide, ?_⟩
    rw [bookF_setDone]
    generalize he : upd H7 b _ = He
    have x7 : Xc b H7 He := by rw [← he]; exact xc_upd
    have be : He b = some (.ins (adr mg "Book") dx (bookF w' z4 z7 v' q.amid)) := by rw [← he]; exact upd_same
    have x5e := (Xc.of (s6.trans s7)).trans x7
    have xe := x15.trans x5e
    have me : Mv mg H He := xe.mv eb
    have m4e : Mv mg H4 He := (x5.trans x5e).mv (s14 _ _ eb)
    have m7e : Mv mg H7 He := x7.mv b7
    refine k He xe ⟨⟨dx, w', z4, z7, v', _, be, m4e.tk _ _ _ h4', MomsAt.append (h2.mv me) ⟨⟨a', rfl, (at2.same (s3.trans s4)).mv m4e⟩, trivial⟩, ?_, dp_tk me.tk _ _ nd.1 h4, dp_tk me.tk _ _ (noL_tup nd.2) h5⟩, nd, ?_⟩
    · refine .tup (m7e.tk _ _ _ h7') ?_
      show DpAll K He _ ((q.deeds ++ [d]).map deedD)
      rw [List.map_append]
      exact dpAll_append (dpAll_tk me.tk _ _ (noL_deeds _) du) (.cons (dp_tk me.tk _ _ (noL_deed d) dt) .nil)
    · show (q.moms ++ [m']).length = (q.deeds ++ [d]).length + 1
      rw [List.length_append, List.length_append, len]
      rfl
/-- the steps that have cards -/
def stepS (K : PySem.W.Frag) (mg : Str → Option Value) : Str → Sp → Prop := fun x sp => (x = "call" ∧ sp = sp_after_call K mg) ∨ (x = "whisper" ∧ sp = sp_after_whisper K mg)
theorem step_ok (T : Top K mg) (W : StepsW w K mg) : ∀ x sp, stepS K mg x sp → ∃ f, KDct K w (adr mg "STEPS") x (.ref f) ∧ HeldR P w K mg base 9 f sp := fun x sp h => by
  rcases h with ⟨rfl, rfl⟩ | ⟨rfl, rfl⟩
  · obtain ⟨f, g, hf⟩ := OkM.held ((ok_after_call (P := P) (w := w) (base := base) T).mono (show 7 ≤ 9 by decide))
    have := W.at_ "call" "after_call" (by decide +kernel)
    rw [adr_of g] at this
    exact ⟨f, this, hf⟩
  · obtain ⟨f, g, hf⟩ := OkM.held ((ok_after_whisper (P := P) (w := w) (base := base) T).mono (show 7 ≤ 9 by decide))
    have := W.at_ "whisper" "after_whisper" (by decide +kernel)
    rw [adr_of g] at this
    exact ⟨f, this, hf⟩
def sp_bcall (K : PySem.W.Frag) (mg : Str → Option Value) : Sp := fun vs H Q _ => ∃ (b e : Addr) (q : BookS) (x : Str) (r : List Int) (m : Mom), vs = [.ref b, .str x, .ref e] ∧ BookAt K mg H b q ∧ q.amid = false ∧ q.deeds.length < 60 ∧ q.moms[q.moms.length - 1]? = some m ∧ MomOk 900 m ∧ SqT K H e (r.map V.int) ∧ RowsOk m.p m.n [r] ∧ x ∈ m.hands.map Prod.fst ∧ hasR m.p m.n (plainR m.p m.n (heardM m [x])) r = true ∧
  ∀ H', Xc b H H' → BookAt K mg H' b (q.push (callM m r) (.call x r)) → Q .non H'
theorem ok_Book_call (T : Top K mg) (W : StepsW w K mg) : OkM P w K mg base 12 "Book" "call" ["self", "hand", "row"] [] (sp_bcall K mg) := by
  have O_Book_refuse_amid := ok_Book_refuse_amid (P := P) (w := w) (base := base) T
  have O_Book_perform := ok_Book_perform (P := P) (w := w) (base := base) T W (step_ok T W)
  refine T.d_Book_call.ok sc_Book_call (fun vs H Q E h => ?_) (fun f cdv A outer s H vs Q E hr h => ?_)
  · obtain ⟨b, e, q, x, r, m, rfl, _⟩ := h
    rfl
  · obtain ⟨b, e, q, x, r, m, rfl, B, am, few, gm, M, he, ok, mx, has, k⟩ := h
    obtain ⟨⟨dx, w', t', u, v', ws, eb, h1, h2, h3, h4, h5⟩, nd, len⟩ := id B
    refine ⟨_, ((pss_cons (ps_expr (pe_methO0 O_Book_refuse_amid T.k_Book (hr.mono (by omega)) (pv 0)))
      (pss_one (ps_expr (pe_methO O_Book_perform T.k_Book (hr.mono (by omega)) (pv 0) (pa_cons (pe_tup (pa_cons pe_str (pa_cons (pv 1) (pa_cons (pv 2) pa_nil)))) pa_nil)))))), ?_⟩
    refine ⟨.ref b, rfl, b, dx, _, rfl, eb, bookF_none (by decide +kernel) (by decide +kernel) (by decide +kernel) (by decide +kernel) (by decide +kernel), b, q, rfl, B, am, ?_⟩
    refine ⟨.ref b, rfl, b, dx, _, rfl, eb, bookF_none (by decide +kernel) (by decide +kernel) (by decide +kernel) (by decide +kernel) (by decide +kernel), .str x, rfl, .ref e, rfl, sz1000 (by decide : (3 : Nat) ≤ 1000), fun z1 nz1 => ?_⟩
    generalize h1' : upd H z1 _ = H1
    obtain ⟨s1, e1⟩ := new_of h1' nz1
    refine ⟨b, z1, q, .call x r, "call", _, _, m, callM m r, rfl, B.same s1, few, .inl (.inl e1), .inl ⟨rfl, rfl⟩, .tup (.inl (.inl e1)) (.cons (.str _) (.cons (.str x) (.cons (row_dp (Same.tup s1 he)) .nil))), gm, fun a H' Q' s' ma kk => ?_, fun H' x' B' => k H' ((Xc.of s1).trans x') B'⟩
    exact ⟨a, e, x, r, m, rfl, ma, M, Same.tup (s1.trans s') he, ok, mx, has, fun H2 a' s2 at2 => kk H2 a' s2 at2⟩
structure BookI (p : Int) (n : Nat) (nm : List Str) (B : Nat) (q : BookS) : Prop where
  amid : q.amid = false
  ok : ∀ m ∈ q.moms, MomOk B m ∧ m.p = p ∧ m.n = n ∧ m.hands.map Prod.fst = nm
  row : ∀ (x : Str) (r : List Int), Deed.call x r ∈ q.deeds → RowsOk p n [r]
  few : q.deeds.length ≤ B
  len : q.moms.length = q.deeds.length + 1
theorem BookI.last {p : Int} {n : Nat} {nm : List Str} {B : Nat} {q : BookS} (I : BookI p n nm B q) : ∃ m, q.moms[q.moms.length - 1]? = some m ∧ MomOk B m ∧ m.p = p ∧ m.n = n ∧ m.hands.map Prod.fst = nm := by
  have l := I.len
  have g : q.moms[q.moms.length - 1]? = some (q.moms[q.moms.length - 1]'(by omega)) := List.getElem?_eq_getElem (by omega)
  exact ⟨_, g, I.ok _ (List.mem_of_getElem? g)⟩
theorem BookI.push {p : Int} {n : Nat} {nm : List Str} {B : Nat} {q : BookS} {m' : Mom} {d : Deed} (I : BookI p n nm B q) (M : MomOk (B + 1) m') (e1 : m'.p = p) (e2 : m'.n = n) (e3 : m'.hands.map Prod.fst = nm) (hd : ∀ x r, d = .call x r → RowsOk p n [r]) : BookI p n nm (B + 1) (q.push m' d) where
  amid := I.amid
  ok := fun m hm => by
    rcases List.mem_append.mp hm with hm | hm
    · obtain ⟨a, b⟩ := I.ok m hm
      exact ⟨a.mono (Nat.le_succ _), b⟩
    · rw [List.mem_singleton.mp hm]
      exact ⟨M, e1, e2, e3⟩
  row := fun x r hm => by
    rcases List.mem_append.mp hm with hm | hm
    · exact I.row x r hm
    · exact hd x r (List.mem_singleton.mp hm).symm
  few := by
    show (q.deeds ++ [d]).length ≤ B + 1
    rw [List.length_append, List.length_singleton]
    have := I.few
    omega
  len := by
    show (q.moms ++ [m']).length = (q.deeds ++ [d]).length + 1
    rw [List.length_append, List.length_append, I.len]
    rfl
theorem push_last (q : BookS) (m : Mom) (d : Deed) : (q.push m d).moms[(q.push m d).moms.length - 1]? = some m := by
  show (q.moms ++ [m])[(q.moms ++ [m]).length - 1]? = some m
  rw [List.length_append, List.length_singleton, Nat.add_sub_cancel, List.getElem?_append_right (Nat.le_refl _), Nat.sub_self]
  rfl
theorem BookI.mono {p : Int} {n : Nat} {nm : List Str} {B B' : Nat} {q : BookS} (I : BookI p n nm B q) (h : B ≤ B') : BookI p n nm B' q where
  amid := I.amid
  ok := fun m hm => ⟨(I.ok m hm).1.mono h, (I.ok m hm).2⟩
  row := I.row
  few := Nat.le_trans I.few h
  len := I.len
end
end OC
set_option Elab.async false
set_option linter.all false
set_option maxRecDepth 100000
set_option maxHeartbeats 4000000
namespace OC
open PySem PySem.Spec PyProof.Rows L2
section
variable {P : Program} {w : World} {K : PySem.W.Frag} {mg : Str → Option Value} {base : Heap}
theorem sl_of {l : List Str} (s : sortedS l = true) (nd : l.Nodup) : l.Pairwise sl := by
  refine ((pw_sorted l s).and nd).imp fun {a b} h => ?_
  show a.cps.toList < b.cps.toList
  refine Decidable.byContradiction fun z => h.2 ?_
  exact PySem.W.str_of_cps (List.le_antisymm h.1 (List.not_lt.mp z))
theorem plus_at {p m : Int} {x y : List Int} {k n : Nat} (hx : x.length = n) (hy : y.length = n) (hk : k < n) : (plusR p x y m).take (k + 1) = (plusR p x y m).take k ++ [(x.getD k 0 + m * y.getD k 0) % p] := by
  have g : (plusR p x y m)[k]? = some ((x.getD k 0 + m * y.getD k 0) % p) := by
    unfold plusR
    rw [List.getElem?_zipWith, List.getElem?_eq_getElem (l := x) (by omega), List.getElem?_eq_getElem (l := y) (by omega), gd_lt (r := x) (i := k) (by omega), gd_lt (r := y) (i := k) (by omega)]
  rw [List.take_add_one, g]
  rfl
theorem flat_noughts (k : Nat) : (List.replicate k [V.int 0]).flatten = (List.replicate k (0 : Int)).map V.int := by
  induction k with
  | zero => rfl
  | succ k ih => rw [List.replicate_succ, List.flatten_cons, ih, List.replicate_succ, List.map_cons]; rfl
def sp_lmadeN (K : PySem.W.Frag) : Sp := fun vs H Q _ => ∃ (a b : Addr) (ws : List V) (rs : List (List Int)) (fs : List Int) (p : Int) (n : Nat), vs = [.int p, .int (n : Int), .ref a, .ref b] ∧ SqT K H a ws ∧ DpAll K H ws (rs.map rowD) ∧ SqL K H b (fs.map V.int) ∧ rs.length = fs.length ∧ 0 < p ∧ p ≤ 1000 ∧ n ≤ 100 ∧ (∀ r ∈ rs, r.length = n ∧ ∀ x ∈ r, 0 ≤ x ∧ x < 1000) ∧ (∀ f ∈ fs, 0 ≤ f ∧ f ≤ 1000) ∧
  ∀ H' l, Same H H' → H' l = some (.tup ((madeR p (List.replicate n 0) (rs.zip fs)).map V.int)) → Q (.ref l) H'
theorem ok__law_made_ofN (T : Top K mg) : Ok P w K mg base 1 "_law_made_of" ["_law_p", "_law_n", "_law_rows", "_law_factors"] (sp_lmadeN K) := by
  refine T.d__law_made_of.ok sc__law_made_of (fun vs H Q E h => ?_) (fun f cdv A outer s H vs Q E hr h => ?_)
  · obtain ⟨a, b, ws, rs, fs, p, n, rfl, _⟩ := h
    rfl
  · obtain ⟨a, b, ws, rs, fs, p, n, rfl, hA, hR, hB, hl, hp, hp2, hn, hln, hf, q⟩ := h
    have lw := rows_len hR
    refine ⟨_, ((pss_cons (ps_set (i := 4) sc__law_made_of.nd rfl (.inr rfl) (pe_op op_rep (pe_lst (pa_cons pe_int pa_nil)) (pv 1)))
      (pss_cons (ps_for PassesOwn.never (by rfl) (pi_zipN (by rfl) T.b_zip (pa_cons (pv 2) (pa_cons (pv 3) pa_nil))) (pg_tup (by rfl) (pgs_cons (pg_name (i := 5) sc__law_made_of.nd rfl (.inr rfl)) (pgs_cons (pg_name (i := 6) sc__law_made_of.nd rfl (.inr rfl)) pgs_nil)))
        (pss_one (ps_set (i := 4) sc__law_made_of.nd rfl (.inr rfl) (pe_lc (own := [("_law_k", 7)]) (g := gName 7) (by rfl) sc__law_made_of.nd (pi_range1 (by rfl) T.b_range (pa_cons (pv 1) pa_nil)) (blkOk_by (own := [("_law_k", 7)]) (N := N__law_made_of) (sc := defScope s__law_made_of) (by decide +kernel)) (fun _ _ _ _ _ => (pg_name (i := 7) sc__law_made_of.nd rfl (.inl rfl))) (fun _ _ _ _ _ => pts_nil) (fun _ _ _ _ _ => (pe_op op_mod (pe_op op_add (pe_ix (show IxR _ (rIxL K) from ix_list) (pv 4) (pv 7) (fun _ _ => rfl)) (pe_op op_mul (pv 6) (pe_ix (show IxR _ (rIxT K) from ix_tup) (pv 5) (pv 7) (fun _ _ => rfl)))) (pv 0)))))))
      (pss_one (ps_ret (pe_callTy call_tuple_of (by rfl) T.b_tuple (by decide +kernel) (pa_cons (pv 4) pa_nil))))))), ?_⟩
    refine ⟨sz1000 (by decide : (1 : Nat) ≤ 1000), fun z nz => ?_⟩
    generalize h1 : upd H z _ = H1
    obtain ⟨s1, e1⟩ := new_of h1 nz
    refine ⟨.int n, rfl, z, n, _, rfl, rfl, e1, by omega, by omega, Nat.le_of_lt (small1000 (by show 1 * ((n : Int)).toNat ≤ 1000; omega)), fun y ny => ?_⟩
    rw [show ((n : Int)).toNat = n from rfl, flat_noughts]
    generalize h2 : upd H1 y _ = H2
    obtain ⟨s2, e2⟩ := new_of h2 ny
    have s12 := s1.trans s2
    have hR2 := dpAll_same s12 _ _ hR
    refine ⟨.ref a, rfl, .ref b, rfl, a, b, _, _, rfl, Same.tup s12 hA, sql_same3 s12 hB, ?_⟩
    refine for_it (walk_zipN (K := K) (a := a) (b := b) (xs := ws) (ys := fs.map V.int) rfl) (fun i σ H' => Same H2 H' ∧ ∃ (l : Addr) (y5 y6 y7 : Option V), H' l = some (.lst ((madeR p (List.replicate n 0) ((rs.zip fs).take i)).map V.int)) ∧ σ = [some (.int p), some (.int (n : Int)), some (.ref a), some (.ref b), some (.ref l), y5, y6, y7]) ⟨Same.refl H2, y, none, none, none, e2, rfl⟩ (fun i σ H' _ hW => ⟨Same.tup (s12.trans hW.1) hA, sql_same3 (s12.trans hW.1) hB⟩) (fun i x0 σ H3 H4' hi hW hY => ?_) (fun σ H' hW => ?_)
    · obtain ⟨sm, l, y5, y6, y7, el, rfl⟩ := hW
      obtain ⟨Ta, x, f1, rfl, nT, rfl, g1, g2⟩ := hY
      have g1 : ws[i]? = some x := g1
      have g2 : (fs.map V.int)[i]? = some f1 := g2
      obtain ⟨c, r, rfl, gr, mr, hc⟩ := dpAll_row hR2 g1
      rw [List.getElem?_map] at g2
      obtain ⟨f, hfi, rfl⟩ := Option.map_eq_some_iff.mp g2
      have mf := hf f (List.mem_of_getElem? hfi)
      have sT : Same H3 (upd H3 Ta (.tup [.ref c, .int f])) := same_upd nT
      have hr1 := hln r mr
      have gz : (rs.zip fs)[i]? = some (r, f) := by
        rw [List.getElem?_zip_eq_some]
        exact ⟨gr, hfi⟩
      have ml : (madeR p (List.replicate n 0) ((rs.zip fs).take i)).length = n := made_len p n _ _ List.length_replicate fun x hx => (hln x.1 (List.of_mem_zip (List.mem_of_mem_take hx)).1).1
      have mb : ∀ x ∈ madeR p (List.replicate n 0) ((rs.zip fs).take i), 0 ≤ x ∧ x < p := made_bd hp _ _ (row_noughts' hp n).2
      have mt := made_take (p := p) (z := List.replicate n 0) gz
      generalize madeR p (List.replicate n 0) ((rs.zip fs).take i) = cur at el ml mb mt
      refine ⟨Ta, [.ref c, .int f], rfl, .inl (.inl upd_same), rfl, .ref c, [.int f], rfl, .int f, [], rfl, rfl, ?_⟩
      generalize hg4 : upd H3 Ta _ = H4 at sT
      have hc4 := Same.tup (sm.trans sT) hc
      have el4 := sT _ _ el
      refine ⟨.int n, rfl, n, rfl, by omega, by omega, fun D nD => ?_⟩
      rw [show ((n : Int)).toNat = n from rfl]
      refine lc_range (lo := 0) (n := n) (fun k H5 => Same H4 H5 ∧ H5 D = some (.lst (((plusR p cur r f).take k).map V.int))) ⟨same_upd nD, upd_same⟩ (fun k H5 hk hP => ?_) (fun H5 hP => ?_)
      · obtain ⟨s5, eD⟩ := hP
        have b1 := getD_lt hp mb k
        have b2 := getD_lt (by decide) hr1.2 k
        have b3 : 0 ≤ f * r.getD k 0 := Int.mul_nonneg mf.1 b2.1
        have b4 : f * r.getD k 0 ≤ 1000 * 1000 := Int.mul_le_mul mf.2 (by omega) b2.1 (by decide)
        refine ⟨rfl, .ref l, rfl, .int (0 + k), rfl, l, _, _, _, rfl, rfl, .inl (.inl (s5 _ _ el4)), by rw [show (0 : Int) + (k : Int) = (k : Int) by omega]; exact at_row (by omega), .int f, rfl, .ref c, rfl, .int (0 + k), rfl, c, _, _, _, rfl, rfl, Same.tup s5 hc4, by rw [show (0 : Int) + (k : Int) = (k : Int) by omega]; exact at_row (by omega), _, _, rfl, rfl, .inl ⟨by omega, by omega⟩, _, _, rfl, rfl, .int p, rfl, _, p, rfl, rfl, hp, _, eD, ?_, same_mut s5 nD, ?_⟩
        · rw [List.length_map, List.length_take]
          exact Nat.lt_of_le_of_lt (Nat.min_le_left _ _) (small1000 (by omega))
        · rw [upd_same, plus_at ml hr1.1 (by omega), List.map_append]
          rfl
      · obtain ⟨s5, eD⟩ := hP
        rw [List.take_of_length_le (by unfold plusR; rw [List.length_zipWith]; omega)] at eD
        refine ⟨(sm.trans sT).trans s5, D, _, _, _, ?_, rfl⟩
        rw [mt]
        exact eD
    · obtain ⟨sm, l, y5, y6, y7, el, rfl⟩ := hW
      rw [List.take_of_length_le (by rw [List.length_zip, List.length_map]; omega)] at el
      refine ⟨.ref l, rfl, l, _, rfl, .inl ⟨.inl (.inl el), fun o no => ?_⟩⟩
      generalize h5 : upd H' o _ = H5
      obtain ⟨s5, e5⟩ := new_of h5 no
      exact q H5 o ((s12.trans sm).trans s5) e5
theorem some_of {c : Prop} [Decidable c] : ∃ w : Int, (if decide c then (1 : Int) else 0) = w ∧ (w = 0 ∨ w = 1) := by
  by_cases h : c
  · rw [decide_eq_true h]
    exact ⟨1, rfl, .inr rfl⟩
  · rw [decide_eq_false h]
    exact ⟨0, rfl, .inl rfl⟩
theorem lc_drawnW {J : It} {G : Hp → Prop} {vs : List V} {d c : Addr} {t p : Int} {σ : L2.St} {H : Hp} {Qd : Addr → Hp → Prop} {i : Nat} {sl : List Nat} {te : TE} (w : Walk J vs.length G (YAt vs)) (D0 : Deck H d c t) (hG : ∀ H', Kept d c H H' → G H') (hn : vs.length ≤ 900) (hw : ∀ x : Option V, wipe ((wipe σ sl).set i x) sl = wipe σ sl)
    (hte : ∀ (v : V) (k : Nat) (t' : Int) (H' : Hp) (Q' : VK), Kept d c H H' → Deck H' d c t' → t' ≤ t + 2 * k → k < vs.length → (∀ H'' t'' x, Kept d c H' H'' → Deck H'' d c t'' → t'' ≤ t' + 2 → 0 ≤ x → x < p → Q' (.int x) H'') → te ((wipe σ sl).set i (some v)) H' Q')
    (hd : ∀ (D : Addr) (H' : Hp) (t' : Int) (r : List Int), Kept d c H H' → Deck H' d c t' → t' ≤ t + 2 * vs.length → H D = none → H' D = some (.lst (r.map V.int)) → r.length = vs.length → (∀ x ∈ r, 0 ≤ x ∧ x < p) → Qd D H') :
    LcGoal J (gName i) tYes te sl σ H Qd := by
  intro D nD
  have bD := D0.fresh nD
  refine lc_it w (fun k H' => Kept d c H H' ∧ ∃ (t' : Int) (r : List Int), Deck H' d c t' ∧ t' ≤ t + 2 * k ∧ H' D = some (.lst (r.map V.int)) ∧ r.length = k ∧ ∀ x ∈ r, 0 ≤ x ∧ x < p) ⟨Kept.of (same_upd nD), t, [], D0.same (same_upd nD), by omega, upd_same, rfl, fun x hx => (nomatch hx)⟩ (fun k H' _ hP => hG H' hP.1) (fun k v H1 H2 hk hP hY => ?_) (fun H' hW => ?_)
  · obtain ⟨rfl, _⟩ := hY
    obtain ⟨k', t', r, D', ht', eB, ln, ro⟩ := hP
    refine ⟨hw _, hte v k t' _ _ k' D' ht' hk fun H1 t1 x k1 D1 ht1 x0 x1 => ?_⟩
    refine ⟨r.map V.int, k1 _ _ eB (fun z => bD (.inl z)) (fun z => bD (.inr z)), by rw [List.length_map]; exact small1000 (by omega), (k'.trans k1).mut nD, t1, r ++ [x], D1.mut bD, by omega, ?_, by rw [List.length_append, ln]; rfl, fun y hy => ?_⟩
    · rw [upd_same, List.map_append]
      rfl
    · rcases List.mem_append.mp hy with h | h
      · exact ro y h
      · have : y = x := by simpa using h
        rw [this]
        exact ⟨x0, x1⟩
  · obtain ⟨k', t', r, D', ht', eB, ln, ro⟩ := hW
    exact hd D H' t' r k' D' ht' nD eB ln ro
theorem deck_keep {d c L : Addr} {H H' : Hp} {o : HO} (k : Kept d c H H') (b : ¬ Bad d c L) (e : H L = some o) : H' L = some o := k _ _ e (fun z => b (.inl z)) (fun z => b (.inr z))
theorem deck_tk {d c : Addr} {t : Int} {H H' : Hp} (D : Deck H d c t) (k : Kept d c H H') : Tk H H' := fun K _ _ h => Kept.tup (K := K) D k h
/-- what a book is begun with -/
structure MadeR (p : Int) (n : Nat) (hs : List (Str × List (List Int))) : Prop where
  fld : Fld p
  p5 : 5 ≤ p
  p1 : p ≤ 101
  n1 : 1 ≤ n
  okh : ∀ h ∈ hs, RowsOk p n h.2 ∧ h.2.length ≤ 8
  few : 2 ≤ hs.length
  many : hs.length ≤ 5
  srt : sortedS (hs.map Prod.fst) = true
  nd : (hs.map Prod.fst).Nodup
  nm : ∀ x ∈ hs.map Prod.fst, NameOk x
def sp_begun17 (K : PySem.W.Frag) : Sp := fun vs H Q _ => ∃ (d c : Addr) (t hi : Int), vs = [.ref d, .int hi] ∧ Deck H d c t ∧ t ≤ 600000 ∧ 1 ≤ hi ∧ hi ≤ 8 ∧
  ∀ H' a g ws t' p (n : Nat) hs, Kept d c H H' → Deck H' d c t' → t' ≤ t + 2000 → H' a = some (.tup [.int p, .int (n : Int), .ref g]) → TupF H' g ws → DpAll K H' ws (hs.map handD) → MadeR p n hs → (n : Int) ≤ hi → Q (.ref a) H'
theorem ok__law_begun (T : Top K mg) : Ok P w K mg base 3 "_law_begun" ["_law_deck_here", "_law_high"] (sp_begun17 K) := by
  have O__law_draw := ok__law_draw (P := P) (w := w) (base := base) T
  have O__law_names := ok__law_names (P := P) (w := w) (base := base) T
  have O__law_row := ok__law_row (P := P) (w := w) (base := base) T
  refine T.d__law_begun.ok sc__law_begun (fun vs H Q E h => ?_) (fun f cdv A outer s H vs Q E hr h => ?_)
  · obtain ⟨d, c, t, hi, rfl, _⟩ := h
    rfl
  · obtain ⟨d, c, t, hi, rfl, D0, ht, hi1, hi8, q⟩ := h
    refine ⟨_, ((pss_cons (ps_set (i := 2) sc__law_begun.nd rfl (.inr rfl) (pe_ix ix_list (pe_lst (pa_cons pe_int (pa_cons pe_int (pa_cons pe_int (pa_cons pe_int (pa_cons pe_int (pa_cons pe_int (pa_cons pe_int pa_nil)))))))) (pe_callO O__law_draw (hr.mono (by omega)) (by rfl) (pa_cons (pv 0) (pa_cons pe_int pa_nil))) (fun _ _ => rfl)))
      (pss_cons (ps_set (i := 3) sc__law_begun.nd rfl (.inr rfl) (pe_op op_add pe_int (pe_callO O__law_draw (hr.mono (by omega)) (by rfl) (pa_cons (pv 0) (pa_cons (pv 1) pa_nil)))))
      (pss_cons (ps_set (i := 4) sc__law_begun.nd rfl (.inl rfl) (pe_lst pa_nil))
      (pss_cons (ps_for PassesOwn.never (by rfl) (pi_list (pe_callO O__law_names (hr.mono (by omega)) (by rfl) (pa_cons (pv 0) (pa_cons (pe_op op_add pe_int (pe_callO O__law_draw (hr.mono (by omega)) (by rfl) (pa_cons (pv 0) (pa_cons pe_int pa_nil)))) pa_nil)))) (pg_name (i := 5) sc__law_begun.nd rfl (.inl rfl))
        (pss_one (ps_expr (pe_bm PySem.F.plainAttrs_list PySem.F.slot_list_append PySem.F.type_list_append mt_append (pv 4) (pa_cons (pe_tup (pa_cons (pv 5) (pa_cons (pe_callTy call_tuple_of (by rfl) T.b_tuple (by decide +kernel) (pa_cons (pe_lc (own := [("_law_k", 6)]) (g := gName 6) (by rfl) sc__law_begun.nd (pi_range1 (by rfl) T.b_range (pa_cons (pe_callO O__law_draw (hr.mono (by omega)) (by rfl) (pa_cons (pv 0) (pa_cons pe_int pa_nil))) pa_nil)) (blkOk_by (own := [("_law_k", 6)]) (N := N__law_begun) (sc := defScope s__law_begun) (by decide +kernel)) (fun _ _ _ _ _ => (pg_name (i := 6) sc__law_begun.nd rfl (.inl rfl))) (fun _ _ _ _ _ => pts_nil) (fun _ _ _ _ _ => (pe_callO O__law_row (hr.mono (by omega)) (by rfl) (pa_cons (pv 0) (pa_cons (pv 2) (pa_cons (pv 3) pa_nil)))))) pa_nil)) pa_nil))) pa_nil)))))
      (pss_one (ps_ret (pe_tup (pa_cons (pv 2) (pa_cons (pv 3) (pa_cons (pe_callTy call_tuple_F (by rfl) T.b_tuple (by decide +kernel) (pa_cons (pv 4) pa_nil)) pa_nil))))))))))), ?_⟩
    refine ⟨sz1000 (by decide : (7 : Nat) ≤ 1000), fun o no => ?_⟩
    dsimp only
    generalize h0 : upd H o _ = H0
    obtain ⟨s0, e0⟩ := new_of h0 no
    have D0' := D0.same s0
    have bo := D0.fresh no
    refine ⟨.ref d, rfl, d, c, t, 7, rfl, D0', by omega, by decide, by decide, fun H1 z1 k1 D1 a0 a1 => ?_⟩
    obtain ⟨p, mp, _, hp⟩ := at_int (xs := [5, 7, 11, 13, 31, 97, 101]) a0 a1
    have okp : Fld p ∧ 5 ≤ p ∧ p ≤ 101 := by
      simp only [List.mem_cons, List.not_mem_nil, or_false] at mp
      rcases mp with rfl | rfl | rfl | rfl | rfl | rfl | rfl
      · exact ⟨fld_of (p := 5) (by decide +kernel), by decide, by decide⟩
      · exact ⟨fld_of (p := 7) (by decide +kernel), by decide, by decide⟩
      · exact ⟨fld_of (p := 11) (by decide +kernel), by decide, by decide⟩
      · exact ⟨fld_of (p := 13) (by decide +kernel), by decide, by decide⟩
      · exact ⟨fld_of (p := 31) (by decide +kernel), by decide, by decide⟩
      · exact ⟨fld_of (p := 97) (by decide +kernel), by decide, by decide⟩
      · exact ⟨fld_of (p := 101) (by decide +kernel), by decide, by decide⟩
    obtain ⟨F, p5, p101⟩ := okp
    refine ⟨o, _, z1, .int p, rfl, rfl, .inl (.inl (deck_keep k1 bo e0)), hp, ?_⟩
    refine ⟨.ref d, rfl, .int hi, rfl, d, c, _, hi, rfl, D1, by omega, by omega, by omega, fun H2 n' k2 D2 c0 c1 => ⟨1, n', rfl, rfl, ?_⟩⟩
    obtain ⟨n, hn⟩ : ∃ n : Nat, 1 + n' = (n : Int) := ⟨(1 + n').toNat, by omega⟩
    dsimp only
    rw [hn]
    have n1 : 1 ≤ n := by omega
    have n8 : n ≤ 8 := by omega
    refine ⟨Nat.zero_le _, fun L9 n9 => ?_⟩
    generalize hb : upd H2 L9 _ = Hb
    obtain ⟨sb, eb⟩ := new_of hb n9
    have b9 := D2.fresh n9
    refine ⟨.ref d, rfl, .ref d, rfl, d, c, _, 4, rfl, D2.same sb, by omega, by decide, by decide, fun Hc m' kc Dc m0 m1 => ?_⟩
    refine ⟨2, m', rfl, rfl, d, c, _, (2 + m').toNat, by rw [Int.toNat_of_nonneg (by omega)]; rfl, Dc, by omega, by omega, fun Hd l5 xs t5 kd Dd ht5 n5 e5 lx so nd nm => ?_⟩
    have ec9 := deck_keep kc b9 eb
    have ed9 := deck_keep kd b9 ec9
    have n59 : l5 ≠ L9 := fun z => by subst z; rw [ec9] at n5; cases n5
    have b5' := Dc.fresh n5
    have kad : Kept d c H2 Hd := (Kept.of sb).trans (kc.trans kd)
    have k02 : Kept d c H H2 := (Kept.of s0).trans (k1.trans k2)
    have lxs : xs.length ≤ 5 := by omega
    have ht5' : t5 ≤ t + 400 := by omega
    refine ⟨l5, rfl, ⟨_, .inl (.inl e5)⟩, for_it (walk_list (K := K) (a := l5) (xs := xs.map V.str)) (fun i σ H' => Kept d c H2 H' ∧ ∃ (t' : Int) (ws : List V) (hs : List (Str × List (List Int))) (y3 : Option V), Deck H' d c t' ∧ t' ≤ t5 + 200 * i ∧ H' l5 = some (.lst (xs.map V.str)) ∧ H' L9 = some (.lst ws) ∧ DpAll K H' ws (hs.map handD) ∧ hs.map Prod.fst = xs.take i ∧ (∀ h ∈ hs, RowsOk p n h.2 ∧ h.2.length ≤ 8) ∧ σ = [some (.ref d), some (.int hi), some (.int p), some (.int (n : Int)), some (.ref L9), y3, none])
      ⟨kad, t5, [], [], none, Dd, by omega, e5, ed9, .nil, rfl, fun h hh => (nomatch hh), rfl⟩ (fun i σ H' _ hW => by obtain ⟨_, _, _, _, _, _, _, e, _⟩ := hW; exact .inl (.inl e)) (fun i x σ H' H'' hix hW hY => ?_) (fun σ H' hW => ?_)⟩
    · obtain ⟨rfl, hx⟩ := hY
      obtain ⟨ka, t', ws, hs, y3, D', ht', e5', el9, dphs, fst, rms, rfl⟩ := hW
      rw [List.getElem?_map] at hx
      obtain ⟨nm1, hnm, rfl⟩ := Option.map_eq_some_iff.mp hx
      rw [List.length_map] at hix
      have lhs : hs.length = i := by
        have := congrArg List.length fst
        rw [List.length_map, List.length_take] at this
        omega
      have lws := dpAll_len dphs
      rw [List.length_map] at lws
      refine ⟨.ref L9, rfl, .inl ⟨rfl, _, .inl (.inl el9)⟩, .str nm1, rfl, ?_⟩
      refine ⟨.ref d, rfl, d, c, t', 9, rfl, D', by omega, by decide, by decide, fun He z8 ke De f0 f1 => ⟨z8, rfl, by omega, by omega, ?_⟩⟩
      refine lc_rows3 (K := K) (p := p) (n := n) (m := z8.toNat) De (by omega) (fun _ => rfl) (fun x k t2 H2' Q' D2' ht2 hk hQ => ?_) (fun Lp Hf tf wsp gs kf Df htf np epp dpp lng rog => ?_)
      · exact ⟨.ref d, rfl, .int p, rfl, .int n, rfl, d, c, t2, p, n, rfl, D2', by omega, by omega, by omega, n1, by omega, fun H'' a r t'' k'' D'' htt na ea ok => hQ H'' t'' a r k'' D'' (by omega) ea ok⟩
      have kef := ke.trans kf
      have el9f := deck_keep kef b9 el9
      have lwp := rows_len dpp
      refine ⟨Lp, _, rfl, .inl ⟨.inl (.inl epp), fun r4 n4 => ?_⟩⟩
      generalize hg : upd Hf r4 _ = Hg
      obtain ⟨sg, eg⟩ := new_of hg n4
      refine ⟨sz1000 (by decide : (2 : Nat) ≤ 1000), fun o5 no5 => ?_⟩
      generalize hq5 : upd Hg o5 _ = Hq
      obtain ⟨sq, eq5⟩ := new_of hq5 no5
      have smq := sg.trans sq
      have el9q := smq _ _ el9f
      have kmq : Kept d c H'' Hq := kef.trans (Kept.of smq)
      have dphq := dpAll_tk (deck_tk D' kmq) _ _ (noL_hands hs) dphs
      have tk : Tk Hq (upd Hq L9 (.lst (ws ++ [.ref o5]))) := (Tk.refl _).mut el9q
      have d4 := dpAll_same smq _ _ dpp
      refine ⟨L9, _, _, rfl, rfl, el9q, small1000 (by omega), (ka.trans kmq).mut n9, tf, ws ++ [.ref o5], hs ++ [(nm1, gs)], _, (Df.same smq).mut b9, by omega, by rw [upd_ne n59]; exact deck_keep kmq b5' e5', upd_same, ?_, ?_, ?_, rfl⟩
      · rw [List.map_append]
        exact dpAll_append (dpAll_tk tk _ _ (noL_hands hs) dphq) (.cons (.tup (xs := [.str nm1, .ref r4]) (tk _ _ _ (.inl (.inl eq5))) (.cons (.str nm1) (.cons (.tup (tk _ _ _ (.inl (.inl (sq _ _ eg)))) (dpAll_tk tk _ _ (noL_rows _) d4)) .nil))) .nil)
      · rw [List.map_append, fst, List.take_add_one, hnm]
        rfl
      · intro h hh
        rcases List.mem_append.mp hh with hh | hh
        · exact rms h hh
        · rw [List.mem_singleton.mp hh]
          exact ⟨rog, by show gs.length ≤ 8; omega⟩
    · obtain ⟨ka, t', ws, hs, y3, D', ht', e5', el9, dphs, fst, rms, rfl⟩ := hW
      rw [List.length_map] at ht' fst
      rw [List.take_of_length_le (Nat.le_refl _)] at fst
      have lhs : hs.length = xs.length := by
        have := congrArg List.length fst
        rw [List.length_map] at this
        exact this
      have lws := dpAll_len dphs
      rw [List.length_map] at lws
      refine ⟨.int p, rfl, .int n, rfl, .ref L9, rfl, L9, _, rfl, .inl (.inl el9), fun g og ng od => ?_⟩
      have hgF : TupF (upd H' g (.frz og (.tup ws))) g ws := frz_new od
      have sg : Same H' (upd H' g (.frz og (.tup ws))) := same_upd ng
      generalize upd H' g (.frz og (.tup ws)) = Hg at hgF sg
      refine ⟨sz1000 (by decide : (3 : Nat) ≤ 1000), fun r nr => ?_⟩
      generalize hr6 : upd Hg r _ = H6
      obtain ⟨s6, e6⟩ := new_of hr6 nr
      have sg6 := sg.trans s6
      exact q H6 r g ws t' p n hs ((k02.trans ka).trans (Kept.of sg6)) (D'.same sg6) (by omega) e6 (TupF.same s6 hgF) (dpAll_same sg6 _ _ dphs) ⟨F, p5, p101, n1, rms, by omega, by omega, by rw [fst]; exact so, by rw [fst]; exact nd, by rw [fst]; exact nm⟩ (by omega)
abbrev kS (s : Str) : L2.Key := Sum.inr s
/-- a dict of the hands' rows -/
def HeardAt (K : PySem.W.Frag) (H : Hp) (kvs : List (L2.Key × V)) (hs : List (Str × List (List Int))) : Prop := Paired (fun kv h => kv.1 = kS h.1 ∧ ∃ r, kv.2 = .ref r ∧ RowsAt K H r h.2) kvs hs
/-- the law's own model of a moment -/
structure ModAt (K : PySem.W.Frag) (H : Hp) (a : Addr) (m : Mom) : Prop where
  ex : ∃ (D t : Addr) (kvs : List (L2.Key × V)), H a = some (.dK [(kS "p", .int m.p), (kS "n", .int (m.n : Int)), (kS "heard", .ref D), (kS "open", .ref t)]) ∧ H D = some (.dK kvs) ∧ HeardAt K H kvs m.hands ∧ RowsAt K H t m.called ∧ D ≠ a
theorem HeardAt.same {K : PySem.W.Frag} {H H' : Hp} {kvs : List (L2.Key × V)} {hs : List (Str × List (List Int))} (s : Same H H') (h : HeardAt K H kvs hs) : HeardAt K H' kvs hs := by
  induction h with
  | nil => exact .nil
  | cons h _ ih =>
    obtain ⟨e, r, er, hr⟩ := h
    exact .cons ⟨e, r, er, hr.same s⟩ ih
theorem ModAt.same {K : PySem.W.Frag} {H H' : Hp} {a : Addr} {m : Mom} (s : Same H H') (h : ModAt K H a m) : ModAt K H' a m := by
  obtain ⟨D, t, kvs, e1, e2, e3, e4, ne⟩ := h.ex
  exact ⟨D, t, kvs, s _ _ e1, s _ _ e2, e3.same s, e4.same s, ne⟩
theorem tk_dK {H : Hp} {D : Addr} {u : HO} {kvs : List (L2.Key × V)} (h : H D = some (.dK kvs)) : Tk H (upd H D u) := fun K a xs q => by
  have ne : ∀ {w : HO}, H a = some w → (∀ k, w ≠ .dK k) → a ≠ D := fun {w} e n z => by
    rw [z, h] at e
    exact n _ (Option.some.inj e).symm
  rcases q with (q | ⟨x, q⟩) | q
  · exact .inl (.inl (by rw [upd_ne (ne q fun k z => by cases z)]; exact q))
  · exact .inl (.inr ⟨x, by rw [upd_ne (ne q fun k z => by cases z)]; exact q⟩)
  · exact .inr q
theorem HeardAt.tk {K : PySem.W.Frag} {H H' : Hp} {kvs : List (L2.Key × V)} {hs : List (Str × List (List Int))} (t : Tk H H') (h : HeardAt K H kvs hs) : HeardAt K H' kvs hs := by
  induction h with
  | nil => exact .nil
  | cons h _ ih =>
    obtain ⟨e, r, er, hr⟩ := h
    exact .cons ⟨e, r, er, hr.tk t⟩ ih
theorem HeardAt.keys {K : PySem.W.Frag} {H : Hp} {kvs : List (L2.Key × V)} {hs : List (Str × List (List Int))} (h : HeardAt K H kvs hs) : kvs.map (·.1) = hs.map fun h => kS h.1 := by
  induction h with
  | nil => rfl
  | cons h _ ih =>
    rw [List.map_cons, List.map_cons, ih, h.1]
theorem val_noneK {kvs : List (L2.Key × V)} {k : L2.Key} (h : k ∉ kvs.map (·.1)) : valV kvs k = none := by
  cases e : valV kvs k with
  | none => rfl
  | some v => exact absurd (valV_in e) h
theorem mergeK_new {kvs : List (L2.Key × V)} : ∀ {ps : List (L2.Key × V)}, ((ps ++ kvs).map (·.1)).Nodup → mergeK ps kvs = ps ++ kvs := by
  induction kvs with
  | nil => intro ps _; rw [List.append_nil]; rfl
  | cons kv kvs ih =>
    intro ps nd
    have e : valV ps kv.1 = none := by
      refine val_noneK fun z => ?_
      rw [List.map_append] at nd
      exact (List.nodup_append.mp nd).2.2 _ z _ List.mem_cons_self rfl
    show mergeK (putK ps kv.1 kv.2) kvs = _
    rw [putK_new _ e, ih (by rw [List.append_assoc]; exact nd), List.append_assoc]
    rfl
def sp_model (K : PySem.W.Frag) : Sp := fun vs H Q _ => ∃ (a g : Addr) (ws : List V) (p : Int) (n : Nat) (hs : List (Str × List (List Int))), vs = [.ref a] ∧ H a = some (.tup [.int p, .int (n : Int), .ref g]) ∧ TupF H g ws ∧ DpAll K H ws (hs.map handD) ∧ MadeR p n hs ∧
  ∀ H' l, Same H H' → ModAt K H' l ⟨p, n, [], hs⟩ → Q (.ref l) H'
theorem ok__law_model (T : Top K mg) : Ok P w K mg base 1 "_law_model" ["_law_made"] (sp_model K) := by
  refine T.d__law_model.ok sc__law_model (fun vs H Q E h => ?_) (fun f cdv A outer s H vs Q E hr h => ?_)
  · obtain ⟨a, g, ws, p, n, hs, rfl, _⟩ := h
    rfl
  · obtain ⟨a, g, ws, p, n, hs, rfl, ha, hg, dg, R, q⟩ := h
    refine ⟨_, ((pss_one (ps_ret (pe_disp (pps_cons pe_str (pe_ix ix_tup (pv 0) pe_int (fun _ _ => rfl)) (pps_cons pe_str (pe_ix ix_tup (pv 0) pe_int (fun _ _ => rfl)) (pps_cons pe_str (pe_callTy (call_dictT (by rfl)) (by rfl) T.b_dict (by decide +kernel) (pa_cons (pe_ix ix_tup (pv 0) pe_int (fun _ _ => rfl)) pa_nil)) (pps_cons pe_str (pe_tup pa_nil) pps_nil)))) (by rfl) (by rfl) (fun z => by cases z) (by decide))))), ?_⟩
    intro M nM
    generalize h1 : upd H M _ = H1
    obtain ⟨s1, e1⟩ := new_of h1 nM
    have ha1 : SqT K H1 a [.int p, .int (n : Int), .ref g] := .inl (.inl (s1 _ _ ha))
    have dg1 := dpAll_same s1 _ _ dg
    refine ⟨.ref a, rfl, a, _, 0, .int p, rfl, rfl, ha1, rfl, .ref a, rfl, a, _, 1, .int n, rfl, rfl, ha1, rfl, .ref a, rfl, a, _, 2, .ref g, rfl, rfl, ha1, rfl, ?_⟩
    have hg1 := TupF.same s1 hg
    -- the pairs of the hands
    obtain ⟨ps, kvs, ews, hpair, hheard⟩ : ∃ (ps : List Addr) (kvs : List (L2.Key × V)), ws = ps.map V.ref ∧ Paired (fun p kv => SqT K H1 p [kV kv.1, kv.2]) ps kvs ∧ HeardAt K H1 kvs hs := by
      clear e1 ha1 hg1 hg ha h1 R q
      induction hs generalizing ws with
      | nil =>
        cases dg1
        exact ⟨[], [], rfl, .nil, .nil⟩
      | cons h hs ih =>
        cases dg with
        | cons d1' dr' =>
          cases dg1 with
          | cons d1 dr =>
            obtain ⟨ps, kvs, e, hp, hh⟩ := ih _ dr' dr
            cases d1 with
            | tup hx hy =>
              cases hy with
              | cons y1 y2 =>
                cases y2 with
                | cons y2 y3 =>
                  cases y3
                  cases y1
                  cases y2 with
                  | tup hz hw =>
                    exact ⟨_ :: ps, (kS h.1, _) :: kvs, by rw [e]; rfl, .cons hx hp, .cons ⟨rfl, _, rfl, _, hz, hw⟩ hh⟩
    have nk : ((([] : List (L2.Key × V)) ++ kvs).map (·.1)).Nodup := by
      rw [List.nil_append, hheard.keys]
      have := R.nd
      rw [show (hs.map fun h => kS h.1) = (hs.map Prod.fst).map kS by rw [List.map_map]; rfl]
      exact List.pairwise_map.mpr (this.imp fun h e => h (Sum.inr.inj e))
    refine ⟨g, ps, kvs, rfl, by rw [← ews]; exact hg1, hpair, fun D nD => ?_⟩
    rw [mergeK_new nk, List.nil_append]
    generalize h2 : upd H1 D _ = H2
    obtain ⟨s2, e2⟩ := new_of h2 nD
    refine ⟨Nat.zero_le _, fun t nt => ?_⟩
    generalize h3 : upd H2 t _ = H3
    obtain ⟨s3, e3⟩ := new_of h3 nt
    have s13 := s2.trans s3
    refine ⟨s13 _ _ e1, [(kS "p", .int p), (kS "n", .int (n : Int)), (kS "heard", .ref D), (kS "open", .ref t)], rfl, Nat.le_of_ble_eq_true rfl, ?_⟩
    have sM : Same H (upd H3 M (.dK (mergeK [] [(kS "p", .int p), (kS "n", .int (n : Int)), (kS "heard", .ref D), (kS "open", .ref t)]))) := same_mut (s1.trans s13) nM
    have neD : D ≠ M := fun z => by rw [z, e1] at nD; cases nD
    have net : t ≠ M := fun z => by rw [z] at nt; rw [s2 _ _ e1] at nt; cases nt
    refine q _ M sM ⟨D, t, kvs, ?_, ?_, ?_, ?_, neD⟩
    · rw [upd_same]
      rfl
    · rw [upd_ne neD]
      exact s3 _ _ e2
    · exact HeardAt.tk (tk_dK (s13 _ _ e1)) (hheard.same s13)
    · refine ⟨[], .inl (.inl ?_), .nil⟩
      rw [upd_ne net]
      exact e3
theorem HeardAt.get {K : PySem.W.Frag} {H : Hp} : ∀ {kvs : List (L2.Key × V)} {hs : List (Str × List (List Int))}, HeardAt K H kvs hs → (hs.map Prod.fst).Nodup → ∀ {x : Str}, x ∈ hs.map Prod.fst → ∃ r, valV kvs (kS x) = some (.ref r) ∧ RowsAt K H r (selR [x] hs)
  | _, [], h, _, x, hx => nomatch hx
  | _, h :: hs, hh, nd, x, hx => by
    rw [List.map_cons] at nd hx
    obtain ⟨n1, n2⟩ := List.nodup_cons.mp nd
    cases hh with
    | cons h1 h2 =>
      obtain ⟨e, r, er, hr⟩ := h1
      by_cases ex : x = h.1
      · subst ex
        refine ⟨r, by rw [valV_pos e, er], ?_⟩
        rw [selR_cons, if_pos (List.mem_singleton_self _), selR_out n1, List.append_nil]
        exact hr
      · have mx : x ∈ hs.map Prod.fst := (List.mem_cons.mp hx).resolve_left ex
        obtain ⟨r', e', hr'⟩ := HeardAt.get h2 n2 mx
        refine ⟨r', by rw [valV_neg (fun z => ex (Sum.inr.inj (z.symm.trans e)).symm.symm)]; exact e', ?_⟩
        have ne : ¬ h.1 ∈ [x] := fun z => ex (List.mem_singleton.mp z).symm
        rw [selR_cons, if_neg ne]
        exact hr'
theorem eqv_txnil (ns : List Str) : PyData.eqv (.tuple (ns.map PyData.str)) (.tuple []) = decide (ns = []) := by
  cases ns with
  | nil => rfl
  | cons x ns => simp [PyData.eqv, PyData.eqvAll]
def sp_rows_by (K : PySem.W.Frag) : Sp := fun vs H Q _ => ∃ (a b : Addr) (m : Mom) (ns : List Str), vs = [.ref a, .ref b] ∧ ModAt K H a m ∧ SqT K H b (ns.map V.str) ∧ ns.Sublist (m.hands.map Prod.fst) ∧ (m.hands.map Prod.fst).Nodup ∧ (∀ x ∈ ns, NameOk x) ∧ m.hands.length ≤ 9 ∧ (∀ h ∈ m.hands, h.2.length ≤ 100) ∧
  ∀ H' l, Same H H' → RowsAt K H' l (heardM m ns) → Q (.ref l) H'
theorem ok__law_rows_by (T : Top K mg) : Ok P w K mg base 1 "_law_rows_by" ["_law_model_here", "_law_hands"] (sp_rows_by K) := by
  refine T.d__law_rows_by.ok sc__law_rows_by (fun vs H Q E h => ?_) (fun f cdv A outer s H vs Q E hr h => ?_)
  · obtain ⟨a, b, m, ns, rfl, _⟩ := h
    rfl
  · obtain ⟨a, b, m, ns, rfl, ma, hb, sub, nd, nm, l9, l100, q⟩ := h
    obtain ⟨D, t, kvs, e1, e2, hh, ht, _⟩ := id ma.ex
    refine ⟨_, ((pss_cons (ps_if (pt_cmpR (op_eqD hr.units) (pv 1) (pe_tup pa_nil) (nomark _))
        (pss_one (ps_ret (pe_dget (units1 hr) (pv 0) pe_str (fun _ _ => rfl))))
        pss_nil)
      (pss_cons (ps_set (i := 2) sc__law_rows_by.nd rfl (.inl rfl) (pe_tup pa_nil))
      (pss_cons (ps_for PassesOwn.never (by rfl) (pi_tup (pv 1)) (pg_name (i := 3) sc__law_rows_by.nd rfl (.inl rfl))
        (pss_one (ps_set (i := 2) sc__law_rows_by.nd rfl (.inl rfl) (pe_op op_catB (pv 2) (pe_dget (units1 hr) (pe_dget (units1 hr) (pv 0) pe_str (fun _ _ => rfl)) (pv 3) (fun _ _ => rfl))))))
      (pss_one (ps_ret (pv 2))))))), ?_⟩
    refine ⟨.ref b, rfl, Nat.zero_le _, fun z nz => ?_⟩
    generalize h1 : upd H z _ = H1
    obtain ⟨s1, ez⟩ := new_of h1 nz
    refine ⟨.tuple (ns.map PyData.str), .tuple [], .tup (Same.tup s1 hb) (dpAll_strs ns), .tup (.inl (.inl ez)) .nil, shaped_tx ns nm, by decide +kernel, _, rfl, ?_⟩
    rw [eqv_txnil]
    by_cases h0 : ns = []
    · rw [decide_eq_true h0]
      refine iteT ⟨.ref a, rfl, a, .ref t, rfl, .inl ⟨_, kS "open", .inl (s1 _ _ e1), rfl, rfl⟩, ?_⟩
      refine q H1 t s1 ?_
      unfold heardM
      rw [if_pos h0]
      exact ht.same s1
    rw [decide_eq_false h0]
    refine iteF ⟨Nat.zero_le _, fun z2 nz2 => ?_⟩
    generalize h2 : upd H1 z2 _ = H2
    obtain ⟨s2, ez2⟩ := new_of h2 nz2
    have s12 := s1.trans s2
    refine ⟨.ref b, rfl, b, rfl, ⟨_, Same.tup s12 hb⟩, for_it (walk_tup (K := K) (a := b) (xs := ns.map V.str)) (fun i σ H' => Same H H' ∧ ∃ (l : Addr) (y3 : Option V), RowsAt K H' l ((ns.take i).flatMap fun x => selR [x] m.hands) ∧ ((ns.take i).flatMap fun x => selR [x] m.hands).length ≤ 100 * i ∧ σ = [some (.ref a), some (.ref b), some (.ref l), y3]) ⟨s12, z2, none, ⟨[], .inl (.inl ez2), .nil⟩, Nat.le_refl _, rfl⟩ (fun i σ H' _ hW => Same.tup hW.1 hb) (fun i v σ H3 H4 hi hW hY => ?_) (fun σ H3 hW => ?_)⟩
    · obtain ⟨rfl, hv⟩ := hY
      obtain ⟨s3, l, y3, ⟨wl, hl1, hl2⟩, ll, rfl⟩ := hW
      rw [List.getElem?_map] at hv
      obtain ⟨x, gx, rfl⟩ := Option.map_eq_some_iff.mp hv
      rw [List.length_map] at hi
      have mx := List.mem_of_getElem? gx
      obtain ⟨r, er, hr⟩ := hh.get nd (sub.subset mx)
      obtain ⟨wr, hr1, hr2⟩ := hr.same s3
      have lnames := sub.length_le
      rw [List.length_map] at lnames
      have lsel : (selR [x] m.hands).length ≤ 100 := by
        obtain ⟨h0', mh, eh⟩ := List.mem_map.mp (sub.subset mx)
        rw [← eh, sel_one nd mh]
        exact l100 h0' mh
      have lwl := rows_len hl2
      have lwr := rows_len hr2
      refine ⟨.ref l, rfl, .ref a, rfl, a, .ref D, rfl, .inl ⟨_, kS "heard", .inl (s3 _ _ e1), rfl, rfl⟩, .str x, rfl, D, .ref r, rfl, .inl ⟨_, kS x, .inl (s3 _ _ e2), rfl, er.symm⟩, ?_⟩
      refine ⟨l, r, wl, wr, rfl, rfl, hl1, hr1, sz1000 (by omega), fun z5 H5 s5 h5 => ?_⟩
      have tk : ((ns.take (i + 1)).flatMap fun x => selR [x] m.hands) = ((ns.take i).flatMap fun x => selR [x] m.hands) ++ selR [x] m.hands := by
        rw [List.take_add_one, gx, List.flatMap_append]
        simp
      refine ⟨s3.trans s5, z5, _, ⟨_, h5, ?_⟩, ?_, rfl⟩
      · rw [tk, List.map_append]
        exact dpAll_append (dpAll_same s5 _ _ hl2) (dpAll_same s5 _ _ hr2)
      · rw [tk, List.length_append]
        omega
    · obtain ⟨s3, l, y3, hl, ll, rfl⟩ := hW
      rw [List.length_map, List.take_of_length_le (Nat.le_refl _), ← selR_sub nd sub] at hl
      refine ⟨.ref l, rfl, q H3 l s3 ?_⟩
      unfold heardM
      rw [if_neg h0]
      exact hl
def sp_room_by (K : PySem.W.Frag) : Sp := fun vs H Q _ => ∃ (a b : Addr) (m : Mom) (ns : List Str) (B : Nat), vs = [.ref a, .ref b] ∧ ModAt K H a m ∧ SqT K H b (ns.map V.str) ∧ ns.Sublist (m.hands.map Prod.fst) ∧ MomOk B m ∧ (heardM m ns).length ≤ 100 ∧ (∀ h ∈ m.hands, h.2.length ≤ 100) ∧
  ∀ H' l, Same H H' → RowsAt K H' l (plainR m.p m.n (heardM m ns)) → Q (.ref l) H'
theorem ok__law_room_by (T : Top K mg) : Ok P w K mg base 3 "_law_room_by" ["_law_model_here", "_law_hands"] (sp_room_by K) := by
  have O__law_rows_by := ok__law_rows_by (P := P) (w := w) (base := base) T
  have O__law_plain := ok__law_plain (P := P) (w := w) (base := base) T
  refine T.d__law_room_by.ok sc__law_room_by (fun vs H Q E h => ?_) (fun f cdv A outer s H vs Q E hr h => ?_)
  · obtain ⟨a, b, m, ns, B, rfl, _⟩ := h
    rfl
  · obtain ⟨a, b, m, ns, B, rfl, ma, hb, sub, M, lr, l100, q⟩ := h
    obtain ⟨D, t, kvs, e1, e2, hh, ht, _⟩ := id ma.ex
    refine ⟨_, ((pss_one (ps_ret (pe_callO O__law_plain (hr.mono (by omega)) (by rfl) (pa_cons (pe_dget (units1 hr) (pv 0) pe_str (fun _ _ => rfl)) (pa_cons (pe_callO O__law_rows_by (hr.mono (by omega)) (by rfl) (pa_cons (pv 0) (pa_cons (pv 1) pa_nil))) pa_nil)))))), ?_⟩
    have many := M.many
    have n8 := M.n8
    have ok := heard_ok M ns
    refine ⟨.ref a, rfl, a, .int m.p, rfl, .inl ⟨_, kS "p", .inl e1, rfl, rfl⟩, .ref a, rfl, .ref b, rfl, a, b, m, ns, rfl, ma, hb, sub, M.nd, fun x hx => M.nm x (sub.subset hx), by omega, l100, fun H1 l s1 hl => ?_⟩
    obtain ⟨ws, hl1, hl2⟩ := hl
    exact ⟨l, ws, heardM m ns, m.p, m.n, rfl, .inr hl1, hl2, ok, M.fld, M.p1, M.n1, by omega, lr, fun H2 l2 s2 h2 => q H2 l2 (s1.trans s2) h2⟩
def sp_bheard (K : PySem.W.Frag) (mg : Str → Option Value) : Sp := fun vs H Q _ => ∃ (b c : Addr) (q : BookS) (v : V) (i : Nat) (ns : List Str) (m : Mom), vs = [.ref b, .ref c, v] ∧ BookAt K mg H b q ∧ AtIdx q v i ∧ q.moms[i]? = some m ∧ MomOk 1000 m ∧ SqT K H c (ns.map V.str) ∧ ns.Pairwise sl ∧ ns.length ≤ 100 ∧ (∀ x ∈ ns, x ∈ m.hands.map Prod.fst) ∧
  ∀ H' l, Same H H' → RowsAt K H' l (heardM m ns) → Q (.ref l) H'
theorem ok_Book_heard (T : Top K mg) : OkM P w K mg base 7 "Book" "heard" ["self", "hands", "at"] [.non] (sp_bheard K mg) := by
  have O_Book_moment_of := ok_Book_moment_of (P := P) (w := w) (base := base) T
  have O_heard_at := ok_heard_at (P := P) (w := w) (base := base) T
  refine T.d_Book_heard.ok sc_Book_heard (fun vs H Q E h => ?_) (fun f cdv A outer s H vs Q E hr h => ?_)
  · obtain ⟨b, c, q, v, i, ns, m, rfl, _⟩ := h
    rfl
  · obtain ⟨b, c, q, v, i, ns, m, rfl, B, hi, gm, M, hc, srt, l100, inn, k'⟩ := h
    obtain ⟨⟨dx, w', t, u, v', ws, eb, h1, h2, h3, h4, h5⟩, nd, len⟩ := id B
    refine ⟨_, ((pss_one (ps_ret (pe_callO O_heard_at (hr.mono (by omega)) (by rfl) (pa_cons (pe_methO O_Book_moment_of T.k_Book (hr.mono (by omega)) (pv 0) (pa_cons (pv 1) (pa_cons pe_int (pa_cons (pv 2) pa_nil)))) (pa_cons (pv 1) pa_nil)))))), ?_⟩
    have many := M.many
    refine ⟨.ref b, rfl, b, dx, _, rfl, eb, bookF_none (by decide +kernel) (by decide +kernel) (by decide +kernel) (by decide +kernel) (by decide +kernel), .ref c, rfl, v, rfl, b, c, q, v, i, 0, ns, m, rfl, B, hi, gm, M, hc, srt, by omega, l100, inn, fun H1 a s1 hm => ?_⟩
    exact ⟨.ref c, rfl, a, c, m, ns, rfl, hm, Same.tup s1 hc, by omega, M.lh, fun H2 l s2 r2 => k' H2 l (s1.trans s2) r2⟩
def sp_bnames (K : PySem.W.Frag) (mg : Str → Option Value) : Sp := fun vs H Q _ => ∃ (b : Addr) (q : BookS) (v : V) (i : Nat) (m : Mom), vs = [.ref b, v] ∧ BookAt K mg H b q ∧ AtIdx q v i ∧ q.moms[i]? = some m ∧ m.hands.length ≤ 100 ∧
  ∀ H' l, Same H H' → SqT K H' l ((m.hands.map Prod.fst).map V.str) → Q (.ref l) H'
theorem ok_Book_names (T : Top K mg) : OkM P w K mg base 4 "Book" "names" ["self", "at"] [.non] (sp_bnames K mg) := by
  have O_Book_moment_at := ok_Book_moment_at (P := P) (w := w) (base := base) T
  have O_names_at := ok_names_at (P := P) (w := w) (base := base) T
  refine T.d_Book_names.ok sc_Book_names (fun vs H Q E h => ?_) (fun f cdv A outer s H vs Q E hr h => ?_)
  · obtain ⟨b, q, v, i, m, rfl, _⟩ := h
    rfl
  · obtain ⟨b, q, v, i, m, rfl, B, hi, gm, l100, k'⟩ := h
    obtain ⟨⟨dx, w', t, u, v', ws, eb, h1, h2, h3, h4, h5⟩, nd, len⟩ := id B
    refine ⟨_, ((pss_one (ps_ret (pe_callO O_names_at (hr.mono (by omega)) (by rfl) (pa_cons (pe_methO O_Book_moment_at T.k_Book (hr.mono (by omega)) (pv 0) (pa_cons (pv 1) pa_nil)) pa_nil))))), ?_⟩
    refine ⟨.ref b, rfl, b, dx, _, rfl, eb, bookF_none (by decide +kernel) (by decide +kernel) (by decide +kernel) (by decide +kernel) (by decide +kernel), v, rfl, b, q, v, i, rfl, B, hi, fun a m' g hm => ?_⟩
    cases gm.symm.trans g
    exact ⟨a, m, rfl, hm, l100, k'⟩
theorem sorted_uniq {l m : List Str} (sl1 : sortedS l = true) (sm : sortedS m = true) (pm : l.Perm m) (nd : m.Nodup) : l = m :=
  strict_ext sl_irr (fun _ _ h => sl_asym h) (sl_of sl1 (pm.nodup_iff.mpr nd)) (sl_of sm nd) fun x => pm.mem_iff
def sp_right17 (K : PySem.W.Frag) (mg : Str → Option Value) : Sp := fun vs H Q _ => ∃ (b a : Addr) (q : BookS) (m : Mom), vs = [.ref b, .ref a] ∧ BookAt K mg H b q ∧ q.moms.length = q.deeds.length + 1 ∧ q.moms[q.moms.length - 1]? = some m ∧ MomOk 100 m ∧ (∀ ns, (heardM m ns).length ≤ 100) ∧ ModAt K H a m ∧
  ∀ H', Same H H' → Q (.bl true) H'
theorem ok__law_all_right (T : Top K mg) : Ok P w K mg base 8 "_law_all_right" ["_law_book", "_law_model_here"] (sp_right17 K mg) := by
  have O__law_rows_by := ok__law_rows_by (P := P) (w := w) (base := base) T
  have O__law_room_by := ok__law_room_by (P := P) (w := w) (base := base) T
  have O_Book_heard := ok_Book_heard (P := P) (w := w) (base := base) T
  have O_Book_known := ok_Book_known (P := P) (w := w) (base := base) T
  have O_Book_names := ok_Book_names (P := P) (w := w) (base := base) T
  refine T.d__law_all_right.ok sc__law_all_right (fun vs H Q E h => ?_) (fun f cdv A outer s H vs Q E hr h => ?_)
  · obtain ⟨b, a, q, m, rfl, _⟩ := h
    rfl
  · obtain ⟨b, a, q, m, rfl, B, lq, gm, M, hlen, ma, qq⟩ := h
    obtain ⟨DD, tt, kvs, e1, e2, hh, htt, _⟩ := id ma.ex
    have many := M.many
    have few := M.few
    have srt := M.srt
    have nd := M.nd
    have lnm : (m.hands.map Prod.fst).length = m.hands.length := List.length_map ..
    have at0 : AtIdx q .non (q.moms.length - 1) := ⟨by omega, .inl ⟨rfl, by omega⟩⟩
    have M1000 := M.mono (show 100 ≤ 1000 by decide)
    have l100 := M.lh
    obtain ⟨dxb, fs, eb, nf⟩ := B.noF
    refine ⟨_, ((pss_cons (ps_set (i := 2) sc__law_all_right.nd rfl (.inl rfl) (pe_callB (call_sortedD (by rfl)) (by rfl) T.b_sorted (by decide +kernel) (pa_cons (pe_dget (units1 hr) (pv 1) pe_str (fun _ _ => rfl)) pa_nil)))
      (pss_cons (ps_for PassesOwn.never (by rfl) (pi_list (pe_op op_cat (pe_op op_cat (pe_lst (pa_cons (pe_tup pa_nil) pa_nil)) (pe_lc (own := [("_law_name", 3)]) (g := gName 3) (by rfl) sc__law_all_right.nd (pi_list (pv 2)) (blkOk_by (own := [("_law_name", 3)]) (N := N__law_all_right) (sc := defScope s__law_all_right) (by decide +kernel)) (fun _ _ _ _ _ => (pg_name (i := 3) sc__law_all_right.nd rfl (.inl rfl))) (fun _ _ _ _ _ => pts_nil) (fun _ _ _ _ _ => (pe_tup (pa_cons (pv 3) pa_nil))))) (pe_lst (pa_cons (pe_callTy call_tuple_of (by rfl) T.b_tuple (by decide +kernel) (pa_cons (pv 2) pa_nil)) (pa_cons (pe_callTy call_tuple_of (by rfl) T.b_tuple (by decide +kernel) (pa_cons (pe_slice sl_list (pv 2) (po_some pe_int) po_none) pa_nil)) pa_nil))))) (pg_name (i := 4) sc__law_all_right.nd rfl (.inl rfl))
        (pss_one (ps_if (PW.pt (pw_or (pt_cmpR (op_neD hr.units) (pe_methO O_Book_heard T.k_Book (hr.mono (by omega)) (pv 0) (pa_cons (pv 4) pa_nil)) (pe_callO O__law_rows_by (hr.mono (by omega)) (by rfl) (pa_cons (pv 1) (pa_cons (pv 4) pa_nil))) (nomark _)) (pw_or1 (pt_cmpR (op_neD hr.units) (pe_methO O_Book_known T.k_Book (hr.mono (by omega)) (pv 0) (pa_cons (pv 4) pa_nil)) (pe_callO O__law_room_by (hr.mono (by omega)) (by rfl) (pa_cons (pv 1) (pa_cons (pv 4) pa_nil))) (nomark _)))))
          (pss_one (ps_ret pe_bl))
          pss_nil)))
      (pss_one (ps_ret (pe_cmpR (op_eqD hr.units) (pe_methO0 O_Book_names T.k_Book (hr.mono (by omega)) (pv 0)) (pe_callTy call_tuple_of (by rfl) T.b_tuple (by decide +kernel) (pa_cons (pv 2) pa_nil)) (nomark _))))))), ?_⟩
    refine ⟨.ref a, rfl, a, .ref DD, rfl, .inl ⟨_, kS "heard", .inl e1, rfl, rfl⟩, DD, kvs, m.hands.map Prod.fst, rfl, .inl e2, by rw [hh.keys, List.map_map]; rfl, by omega, fun nms D pmN soN nD => ?_⟩
    generalize h1 : upd H D _ = H1
    obtain ⟨s1, eD⟩ := new_of h1 nD
    have enm : nms = m.hands.map Prod.fst := sorted_uniq soN srt pmN nd
    subst enm
    have slN : (m.hands.map Prod.fst).Pairwise sl := sl_of srt nd
    refine ⟨Nat.zero_le _, fun z2 nz2 => ?_⟩
    generalize h2 : upd H1 z2 _ = H2
    obtain ⟨s2, e2'⟩ := new_of h2 nz2
    refine ⟨sz1000 (by decide : (1 : Nat) ≤ 1000), fun L3 nL3 => ?_⟩
    generalize h3 : upd H2 L3 _ = H3
    obtain ⟨s3, e3⟩ := new_of h3 nL3
    have s13 := s1.trans (s2.trans s3)
    have eD3 := s3 _ _ (s2 _ _ eD)
    refine ⟨.ref D, rfl, D, rfl, ⟨_, .inl (.inl eD3)⟩, fun N nN => lc_it (walk_list (K := K) (a := D) (xs := (m.hands.map Prod.fst).map V.str)) (fun i Ha => Same H3 Ha ∧ ∃ ws : List V, Ha N = some (.lst ws) ∧ ws.length = i ∧ DpAll K Ha ws ((((m.hands.map Prod.fst).take i).map fun x => [x]).map txD)) ⟨same_upd nN, [], upd_same, rfl, .nil⟩ (fun i Ha _ hP => .inl (.inl (hP.1 _ _ eD3))) (fun i v Ha Hb hi hP hY => ?_) (fun H4 hP => ?_)⟩
    · obtain ⟨rfl, hx⟩ := hY
      obtain ⟨sa, ws, eN, lw, dl⟩ := hP
      rw [List.getElem?_map] at hx
      obtain ⟨x, gx, rfl⟩ := Option.map_eq_some_iff.mp hx
      rw [List.length_map] at hi
      refine ⟨rfl, .str x, rfl, sz1000 (by decide : (1 : Nat) ≤ 1000), fun z nz => ?_⟩
      generalize h5 : upd _ z _ = H5
      obtain ⟨s5, e5⟩ := new_of h5 nz
      have eN5 := s5 _ _ eN
      have tk := (Tk.refl H5).mut eN5 (ys := ws ++ [.ref z])
      have neN : z ≠ N := fun y => by rw [y, eN] at nz; cases nz
      refine ⟨ws, eN5, small1000 (by omega), same_mut (sa.trans s5) nN, ws ++ [.ref z], upd_same, by rw [List.length_append, lw]; rfl, ?_⟩
      rw [List.take_add_one, gx, List.map_append, List.map_append]
      refine dpAll_append (dpAll_tk tk _ _ (noL_txs _) (dpAll_same s5 _ _ dl)) (.cons (.tup (.inl (.inl ?_)) (.cons (.str x) .nil)) .nil)
      rw [upd_ne neN]
      exact e5
    obtain ⟨s4, ws, eN, lw, dl⟩ := hP
    rw [List.length_map] at lw
    rw [List.length_map, List.take_of_length_le (Nat.le_refl _)] at dl
    have s14 := s13.trans s4
    have e34 := s4 _ _ e3
    refine ⟨L3, N, _, _, rfl, rfl, e34, eN, sz1000 (by simp only [List.length_cons, List.length_nil]; omega), fun L5 nL5 => ?_⟩
    generalize h5 : upd H4 L5 _ = H5
    obtain ⟨s5, e5⟩ := new_of h5 nL5
    have eD5 := s5 _ _ (s4 _ _ eD3)
    refine ⟨.ref D, rfl, D, _, rfl, .inl ⟨.inl (.inl eD5), fun t6 nt6 => ?_⟩⟩
    generalize h6 : upd H5 t6 _ = H6
    obtain ⟨s6, e6⟩ := new_of h6 nt6
    have eD6 := s6 _ _ eD5
    refine ⟨.ref D, rfl, 1, rfl, D, _, rfl, .inl (.inl eD6), fun o7 no7 => ?_⟩
    rw [cut_from (by decide) (by rw [List.length_map]; omega), ← List.map_drop]
    generalize h7 : upd H6 o7 _ = H7
    obtain ⟨s7, e7⟩ := new_of h7 no7
    refine ⟨o7, _, rfl, .inl ⟨.inl (.inl e7), fun t8 nt8 => ?_⟩⟩
    generalize h8 : upd H7 t8 _ = H8
    obtain ⟨s8, e8⟩ := new_of h8 nt8
    refine ⟨sz1000 (by decide : (2 : Nat) ≤ 1000), fun L9 nL9 => ?_⟩
    generalize h9 : upd H8 L9 _ = H9
    obtain ⟨s9, e9⟩ := new_of h9 nL9
    have s69 := s6.trans (s7.trans (s8.trans s9))
    have s59 := s5.trans s69
    refine ⟨L5, L9, _, _, rfl, rfl, s69 _ _ e5, e9, sz1000 (by simp only [List.length_append, List.length_cons, List.length_nil]; omega), fun LA nLA => ?_⟩
    generalize hA : upd H9 LA _ = HA
    obtain ⟨sA, eA⟩ := new_of hA nLA
    have s0A : Same H HA := s14.trans (s59.trans sA)
    have dA : DpAll K HA ([.ref z2] ++ ws ++ [.ref t6, .ref t8]) (([[]] ++ (m.hands.map Prod.fst).map (fun x => [x]) ++ [m.hands.map Prod.fst, (m.hands.map Prod.fst).drop 1]).map txD) := by
      rw [List.map_append, List.map_append]
      have s3A := s3.trans (s4.trans (s59.trans sA))
      refine dpAll_append (dpAll_append (.cons (.tup (.inl (.inl (s3A _ _ e2'))) .nil) .nil) (dpAll_same (s59.trans sA) _ _ dl)) ?_
      have s6A := s7.trans (s8.trans (s9.trans sA))
      have s8A := s9.trans sA
      exact .cons (.tup (.inl (.inl (s6A _ _ e6))) (dpAll_strs _)) (.cons (.tup (.inl (.inl (s8A _ _ e8))) (dpAll_strs _)) .nil)
    have sub : ∀ ns ∈ ([[]] ++ (m.hands.map Prod.fst).map (fun x => [x]) ++ [m.hands.map Prod.fst, (m.hands.map Prod.fst).drop 1]), ns.Sublist (m.hands.map Prod.fst) := fun ns hn => by
      rcases List.mem_append.mp hn with hn | hn
      · rcases List.mem_append.mp hn with hn | hn
        · rw [List.mem_singleton.mp hn]
          exact List.nil_sublist _
        · obtain ⟨x, mx, rfl⟩ := List.mem_map.mp hn
          exact List.singleton_sublist.mpr mx
      · rcases List.mem_cons.mp hn with rfl | hn
        · exact List.Sublist.refl _
        · rw [List.mem_singleton.mp hn]
          exact List.drop_sublist _ _
    have lA := dpAll_len dA
    generalize ([[]] ++ (m.hands.map Prod.fst).map (fun x => [x]) ++ [m.hands.map Prod.fst, (m.hands.map Prod.fst).drop 1]) = LL at dA sub lA
    generalize ([.ref z2] ++ ws ++ [.ref t6, .ref t8] : List V) = wA at dA eA lA
    refine ⟨LA, rfl, ⟨_, .inl (.inl eA)⟩, for_it (walk_list (K := K) (a := LA) (xs := wA)) (fun i σ H' => Same HA H' ∧ ∃ y4 : Option V, σ = [some (.ref b), some (.ref a), some (.ref D), none, y4]) ⟨Same.refl _, none, rfl⟩ (fun i σ H' _ hW => .inl (.inl (hW.1 _ _ eA))) (fun i v σ HB HC hi hW hY => ?_) (fun σ HB hW => ?_)⟩
    · obtain ⟨rfl, hv⟩ := hY
      obtain ⟨sB, y4, rfl⟩ := hW
      obtain ⟨c, ns, rfl, _, mns, hc⟩ := dpAll_tx (dpAll_same sB _ _ dA) hv
      have s0B := s0A.trans sB
      have toD : ∀ {H' : Hp} {u : Addr} {us : List (List Int)}, RowsAt K H' u us → Dp K H' (.ref u) (.tuple (us.map rowD)) := fun ⟨_, h1, h2⟩ => .tup h1 h2
      have sb := sub ns mns
      have ln := sb.length_le
      have innN : ∀ x ∈ ns, x ∈ m.hands.map Prod.fst := fun x hx => sb.subset hx
      have nmN : ∀ x ∈ ns, NameOk x := fun x hx => M.nm x (innN x hx)
      refine ⟨.ref b, rfl, b, dxb, _, rfl, s0B _ _ eb, nf _ (by decide +kernel), .ref c, rfl, b, c, q, .non, _, ns, m, rfl, B.same s0B, at0, gm, M1000, hc, slN.sublist sb, by omega, innN, fun H1 l1 u1 r1 => ?_⟩
      refine ⟨.ref a, rfl, .ref c, rfl, a, c, m, ns, rfl, ma.same (s0B.trans u1), Same.tup u1 hc, sb, nd, nmN, by omega, l100, fun H2 l2 u2 r2 => ?_⟩
      refine ⟨_, _, toD (r1.same u2), toD r2, shaped_trows _, shaped_trows _, _, rfl, ?_⟩
      rw [eqv_rows_dec, decide_eq_true rfl]
      refine iteF ?_
      have u12 := u1.trans u2
      have s02 := s0B.trans u12
      have hc2 := Same.tup u12 hc
      refine ⟨.ref b, rfl, b, dxb, _, rfl, s02 _ _ eb, nf _ (by decide +kernel), .ref c, rfl, b, c, q, .non, _, ns, m, rfl, B.same s02, at0, gm, M1000, hc2, slN.sublist sb, by omega, innN, fun H3 l3 u3 r3 => ?_⟩
      refine ⟨.ref a, rfl, .ref c, rfl, a, c, m, ns, _, rfl, ma.same (s02.trans u3), Same.tup u3 hc2, sb, M, hlen ns, l100, fun H4 l4 u4 r4 => ?_⟩
      refine ⟨_, _, toD (r3.same u4), toD r4, shaped_trows _, shaped_trows _, _, rfl, ?_⟩
      rw [eqv_rows_dec, decide_eq_true rfl]
      exact iteF ⟨sB.trans (u12.trans (u3.trans u4)), _, rfl⟩
    · obtain ⟨sB, y4, rfl⟩ := hW
      have s0B := s0A.trans sB
      have eDB := (s69.trans (sA.trans sB)) _ _ eD5
      refine ⟨.ref b, rfl, b, dxb, _, rfl, s0B _ _ eb, nf _ (by decide +kernel), b, q, .non, _, m, rfl, B.same s0B, at0, gm, by omega, fun H1 l1 u1 r1 => ?_⟩
      refine ⟨.ref D, rfl, D, _, rfl, .inl ⟨.inl (.inl (u1 _ _ eDB)), fun t nt => ?_⟩⟩
      generalize ht : upd H1 t _ = H2
      obtain ⟨u2, et⟩ := new_of ht nt
      refine ⟨txD (m.hands.map Prod.fst), txD (m.hands.map Prod.fst), .tup (Same.tup u2 r1) (dpAll_strs _), .tup (.inl (.inl et)) (dpAll_strs _), shaped_tx _ M.nm, shaped_tx _ M.nm, ?_⟩
      rw [eqv_tx, decide_eq_true rfl]
      exact qq H2 (s0B.trans (u1.trans u2))
/-! ### a call that is refused -/
def sp_after_callX (K : PySem.W.Frag) (mg : Str → Option Value) : Sp := fun vs H Q E => ∃ (a b : Addr) (x : Str) (r : List Int) (m : Mom), vs = [.ref a, .str x, .ref b] ∧ MomAt K mg H a m ∧ MomOk 900 m ∧ SqT K H b (r.map V.int) ∧ RowsOk m.p m.n [r] ∧ x ∈ m.hands.map Prod.fst ∧ hasR m.p m.n (plainR m.p m.n (heardM m [x])) r = false ∧
  ∀ H' d, Same H H' → H' d = some (.xd [(("name" : Str), V.str x)]) → E (.ref (adr mg "NotKnown")) (some d) H'
theorem okX_after_call (T : Top K mg) : OkX P w K mg base 7 "after_call" ["moment", "hand", "row"] (sp_after_callX K mg) := by
  have O_check_hand := ok_check_handB (P := P) (w := w) (base := base) T
  have O_names_at := ok_names_at (P := P) (w := w) (base := base) T
  have O_check_row := ok_check_rowB (P := P) (w := w) (base := base) T
  have O_within := ok_within (P := P) (w := w) (base := base) T
  have O_known_at := ok_known_at (P := P) (w := w) (base := base) T
  have O_Moment___init__ := ok_Moment___init__ (P := P) (w := w) (base := base) T
  refine T.d_after_call.okX sc_after_call (fun vs H Q E h => ?_) (fun f cdv A outer s H vs Q E hr h => ?_)
  · obtain ⟨a, b, x, r, m, rfl, _⟩ := h
    rfl
  · obtain ⟨a, b, x, r, m, rfl, ma, M, hb, ok, mx, has, q⟩ := h
    obtain ⟨dx, c, h, ea, hc, hh⟩ := id ma
    refine ⟨_, ((pss_cons (ps_expr (pe_callO O_check_hand (hr.mono (by omega)) (by rfl) (pa_cons (pe_callO O_names_at (hr.mono (by omega)) (by rfl) (pa_cons (pv 0) pa_nil)) (pa_cons (pv 1) pa_nil))))
      (pss_cons (ps_expr (pe_callO O_check_row (hr.mono (by omega)) (by rfl) (pa_cons (pe_fld (pv 0) (by rfl)) (pa_cons (pe_fld (pv 0) (by rfl)) (pa_cons (pv 2) pa_nil)))))
      (pss_cons (ps_if (pt_not (pt_val (pe_callO O_within (hr.mono (by omega)) (by rfl) (pa_cons (pe_fld (pv 0) (by rfl)) (pa_cons (pe_callO O_known_at (hr.mono (by omega)) (by rfl) (pa_cons (pv 0) (pa_cons (pe_tup (pa_cons (pv 1) pa_nil)) pa_nil))) (pa_cons (pv 2) pa_nil))))))
        (pss_one (ps_raiseF (k := 0) T.f_NotKnown T.e_NotKnown PySem.F.excBase_ValueError PySem.F.store_ValueError rfl (hr.mono (by omega)) (takes_of rfl rfl rfl rfl) (pa_cons (pv 1) pa_nil)))
        pss_nil)
      (pss_cons (ps_set (i := 5) sc_after_call.nd rfl (.inl rfl) (pe_callTy call_tuple_of (by rfl) T.b_tuple (by decide +kernel) (pa_cons (pe_lc (own := [("name", 3), ("rows", 4)]) (g := gTup K 2 (gCons (gName 3) (gCons (gName 4) gNil))) (by rfl) sc_after_call.nd (pi_tup (pe_fld (pv 0) (by rfl))) (blkOk_by (own := [("name", 3), ("rows", 4)]) (N := N_after_call) (sc := defScope s_after_call) (by decide +kernel)) (fun _ _ _ _ _ => (pg_tup (by rfl) (pgs_cons (pg_name (i := 3) sc_after_call.nd rfl (.inl rfl)) (pgs_cons (pg_name (i := 4) sc_after_call.nd rfl (.inl rfl)) pgs_nil)))) (fun _ _ _ _ _ => pts_nil) (fun _ _ _ _ _ => (pe_tup (pa_cons (pv 3) (pa_cons (pe_op (show OpR _ (binaryOp .Add) (rCatB K) from op_catB) (pv 4) (pe_tup (pa_cons (pv 2) pa_nil))) pa_nil))))) pa_nil)))
      (pss_one (ps_ret (pe_makeO O_Moment___init__ T.k_Moment (hr.mono (by omega)) (by rfl) (pa_cons (pe_fld (pv 0) (by rfl)) (pa_cons (pe_fld (pv 0) (by rfl)) (pa_cons (pe_op op_catB (pe_fld (pv 0) (by rfl)) (pe_tup (pa_cons (pv 2) pa_nil))) (pa_cons (pv 5) pa_nil)))))))))))), ?_⟩
    have many := M.many
    have n8 := M.n8
    have M1 := M.mono (show 900 ≤ 1000 by decide)
    have F1 : ∀ {H' : Hp}, Same H H' → H' a = some (.ins (adr mg "Moment") dx (momF m.p m.n c h)) := fun s => s _ _ ea
    refine ⟨.ref a, rfl, a, m, rfl, ma, by omega, fun H1 l1 s1 h1 => ?_⟩
    refine ⟨.str x, rfl, l1, x, _, rfl, h1, mx, ?_⟩
    refine ⟨.ref a, rfl, a, _, dx, _, _, rfl, F1 s1, T.k_Moment.cl, T.na_Moment_p, momF_p, .ref a, rfl, a, _, dx, _, _, rfl, F1 s1, T.k_Moment.cl, T.na_Moment_n, momF_n, .ref b, rfl, ?_⟩
    have lr := (ok r List.mem_cons_self).1
    refine ⟨b, r, m.p, m.n, rfl, Same.tup s1 hb, ok, by omega, fun H2 s2 => ?_⟩
    have s12 := s1.trans s2
    refine ⟨.ref a, rfl, a, _, dx, _, _, rfl, F1 s12, T.k_Moment.cl, T.na_Moment_p, momF_p, .ref a, rfl, .str x, rfl, sz1000 (by decide : (1 : Nat) ≤ 1000), fun o no => ?_⟩
    generalize h3 : upd H2 o _ = H3
    obtain ⟨s3, e3⟩ := new_of h3 no
    refine ⟨a, o, m, [x], rfl, ma.same (s12.trans s3), .inl (.inl e3), M1, fun H4 l4 s4 r4 => ?_⟩
    have s14 := s12.trans (s3.trans s4)
    refine ⟨.ref b, rfl, b, l4, _, r, m.p, m.n, rfl, r4, Same.tup s14 hb, PFR.of_plain M.fld (heard_ok M [x]), ok, M.fld, by omega, M.p1, fun H5 s5 => ⟨_, rfl, ?_⟩⟩
    rw [has]
    refine iteT ?_
    refine ⟨.str x, rfl, .str x, rfl, fun d nd => ?_⟩
    generalize h6 : upd H5 d _ = H6
    obtain ⟨s6, e6⟩ := new_of h6 nd
    exact q H6 d (s14.trans (s5.trans s6)) e6
def sp_afterX (K : PySem.W.Frag) (S : Str → Sp → Prop) : Sp := fun vs H Q E => ∃ (a t : Addr) (x : Str) (xs : List V) (sp : Sp), vs = [.ref a, .ref t] ∧ SqT K H t (.str x :: xs) ∧ S x sp ∧ ∀ H', Same H H' → sp (.ref a :: xs) H' Q E
theorem okX_after (T : Top K mg) (W : StepsW w K mg) {S : Str → Sp → Prop} (hS : ∀ x sp, S x sp → ∃ f, KDct K w (adr mg "STEPS") x (.ref f) ∧ HeldX P w K mg base 9 f sp) : OkX P w K mg base 10 "after" ["moment", "deed"] (sp_afterX K S) := by
  refine T.d_after.okX sc_after (fun vs H Q E h => ?_) (fun f cdv A outer s H vs Q E hr h => ?_)
  · obtain ⟨a, t, x, xs, sp, rfl, _⟩ := h
    rfl
  · obtain ⟨a, t, x, xs, sp, rfl, ht, hs, q⟩ := h
    refine ⟨_, ((pss_cons (ps_set (i := 2) sc_after.nd rfl (.inl rfl) (pe_ix ix_kdict (pe_glob (v := .ref _) (by rfl) W.g_STEPS rfl) (pe_ix ix_tup (pv 1) pe_int (fun _ _ => rfl)) (fun _ _ => rfl)))
      (pss_cons (ps_set (i := 3) sc_after.nd rfl (.inl rfl) (pe_slice sl_tupB (pv 1) (po_some pe_int) po_none))
      (pss_one (ps_ret (pe_callLX (k := 9) (takes_of rfl rfl rfl rfl) (hr.mono (by omega)) (i := 2) (by rfl) (.inl rfl) (pa_cons (pv 0) (StX.pa_star (pv 3) pa_nil)))))))), ?_⟩
    obtain ⟨f, kd, hf⟩ := hS x sp hs
    refine ⟨.ref t, rfl, t, _, 0, .str x, rfl, rfl, ht, atI_nat (j := 0) rfl, adr mg "STEPS", x, .ref f, rfl, rfl, kd, ?_⟩
    refine ⟨.ref t, rfl, 1, rfl, t, _, rfl, ht, fun b2 H2 s2 h2 => ?_⟩
    rw [cut1] at h2
    exact ⟨f, sp, rfl, hf, .ref a, rfl, .ref b2, rfl, b2, xs, rfl, .inl h2, by
      have z := q H2 s2
      show sp (.ref a :: (xs ++ [])) H2 _ _
      rw [List.append_nil]
      exact z⟩
def sp_performX (K : PySem.W.Frag) (mg : Str → Option Value) (S : Str → Sp → Prop) : Sp := fun vs H Q E => ∃ (b t : Addr) (q : BookS) (x : Str) (xs : List V) (sp : Sp) (m : Mom), vs = [.ref b, .ref t] ∧ BookAt K mg H b q ∧ q.deeds.length < 60 ∧ SqT K H t (.str x :: xs) ∧ S x sp ∧ q.moms[q.moms.length - 1]? = some m ∧
  ∀ a H' Q', Same H H' → MomAt K mg H' a m → sp (.ref a :: xs) H' Q' E
theorem okX_Book_perform (T : Top K mg) (W : StepsW w K mg) {S : Str → Sp → Prop} (hS : ∀ x sp, S x sp → ∃ f, KDct K w (adr mg "STEPS") x (.ref f) ∧ HeldX P w K mg base 9 f sp) : OkMX P w K mg base 11 "Book" "perform" ["self", "deed"] [] (sp_performX K mg S) := by
  have O_Book_now := ok_Book_now (P := P) (w := w) (base := base) T
  have OX_after := okX_after (P := P) (w := w) (base := base) T W hS
  refine T.d_Book_perform.okX sc_Book_perform (fun vs H Q E h => ?_) (fun f cdv A outer s H vs Q E hr h => ?_)
  · obtain ⟨b, t, q, x, xs, sp, m, rfl, _⟩ := h
    rfl
  · obtain ⟨b, t, q, x, xs, sp, m, rfl, B, few, ht, hs, gm, hsp⟩ := h
    obtain ⟨⟨dx, w', t', u, v', ws, eb, h1, h2, h3, h4, h5⟩, nd, len⟩ := id B
    obtain ⟨wu, hu, du, lu⟩ := deeds_of h3
    refine ⟨_, ((pss_cons (ps_if (pt_cmpR op_ge (pe_callB call_len_seq (by rfl) T.b_len (by decide +kernel) (pa_cons (pe_fld (pv 0) (by rfl)) pa_nil)) (pe_cint T.c_DEEDS (by rfl)) (nomark _))
        (pss_one ps_dead)
        pss_nil)
      (pss_cons (ps_set (i := 2) sc_Book_perform.nd rfl (.inl rfl) (pe_callX OX_after (takes_of rfl rfl rfl rfl) (hr.mono (by omega)) (by rfl) (pa_cons (pe_methO0 O_Book_now T.k_Book (hr.mono (by omega)) (pv 0)) (pa_cons (pv 1) pa_nil))))
      (pss_cons (ps_fld (pv 0) (pe_op op_catB (pe_fld (pv 0) (by rfl)) (pe_tup (pa_cons (pv 2) pa_nil))) (by rfl))
      (pss_one (ps_fld (pv 0) (pe_op op_catB (pe_fld (pv 0) (by rfl)) (pe_tup (pa_cons (pv 1) pa_nil))) (by rfl))))))), ?_⟩
    have ldu : decide ((60 : Int) ≤ (wu.length : Int)) = false := decide_eq_false (by omega)
    refine ⟨.ref b, rfl, b, _, dx, _, _, rfl, eb, T.k_Book.cl, T.na_Book_done, bookF_done, u, _, rfl, .inr hu, _, _, rfl, rfl, _, rfl, ?_⟩
    rw [ldu]
    refine iteF ?_
    refine ⟨.ref b, rfl, b, dx, _, rfl, eb, bookF_none (by decide +kernel) (by decide +kernel) (by decide +kernel) (by decide +kernel) (by decide +kernel), b, q, rfl, B, fun a ma gma hma => ?_⟩
    cases gm.symm.trans gma
    exact ⟨.ref t, rfl, a, t, x, xs, sp, rfl, ht, hs, fun H' sH => hsp a H' _ sH (hma.same sH)⟩
/-- the steps, as they refuse -/
def stepX (K : PySem.W.Frag) (mg : Str → Option Value) : Str → Sp → Prop := fun x sp => x = "call" ∧ sp = sp_after_callX K mg
theorem stepX_ok (T : Top K mg) (W : StepsW w K mg) : ∀ x sp, stepX K mg x sp → ∃ f, KDct K w (adr mg "STEPS") x (.ref f) ∧ HeldX P w K mg base 9 f sp := fun x sp h => by
  obtain ⟨rfl, rfl⟩ := h
  obtain ⟨f, g, hf⟩ := OkX.held ((okX_after_call (P := P) (w := w) (base := base) T).mono (show 7 ≤ 9 by decide))
  have := W.at_ "call" "after_call" (by decide +kernel)
  rw [adr_of g] at this
  exact ⟨f, this, hf⟩
def sp_bcallX (K : PySem.W.Frag) (mg : Str → Option Value) : Sp := fun vs H Q E => ∃ (b e : Addr) (q : BookS) (x : Str) (r : List Int) (m : Mom), vs = [.ref b, .str x, .ref e] ∧ BookAt K mg H b q ∧ q.amid = false ∧ q.deeds.length < 60 ∧ q.moms[q.moms.length - 1]? = some m ∧ MomOk 900 m ∧ SqT K H e (r.map V.int) ∧ RowsOk m.p m.n [r] ∧ x ∈ m.hands.map Prod.fst ∧ hasR m.p m.n (plainR m.p m.n (heardM m [x])) r = false ∧
  ∀ H' d, Same H H' → H' d = some (.xd [(("name" : Str), V.str x)]) → E (.ref (adr mg "NotKnown")) (some d) H'
theorem okX_Book_call (T : Top K mg) (W : StepsW w K mg) : OkMX P w K mg base 12 "Book" "call" ["self", "hand", "row"] [] (sp_bcallX K mg) := by
  have O_Book_refuse_amid := ok_Book_refuse_amid (P := P) (w := w) (base := base) T
  have OX_Book_perform := okX_Book_perform (P := P) (w := w) (base := base) T W (stepX_ok T W)
  refine T.d_Book_call.okX sc_Book_call (fun vs H Q E h => ?_) (fun f cdv A outer s H vs Q E hr h => ?_)
  · obtain ⟨b, e, q, x, r, m, rfl, _⟩ := h
    rfl
  · obtain ⟨b, e, q, x, r, m, rfl, B, am, few, gm, M, he, ok, mx, has, k⟩ := h
    obtain ⟨⟨dx, w', t', u, v', ws, eb, h1, h2, h3, h4, h5⟩, nd, len⟩ := id B
    refine ⟨_, ((pss_cons (ps_expr (pe_methO0 O_Book_refuse_amid T.k_Book (hr.mono (by omega)) (pv 0)))
      (pss_one (ps_expr (pe_methXO OX_Book_perform T.k_Book (takes_of rfl rfl rfl rfl) (hr.mono (by omega)) (pv 0) (pa_cons (pe_tup (pa_cons pe_str (pa_cons (pv 1) (pa_cons (pv 2) pa_nil)))) pa_nil)))))), ?_⟩
    refine ⟨.ref b, rfl, b, dx, _, rfl, eb, bookF_none (by decide +kernel) (by decide +kernel) (by decide +kernel) (by decide +kernel) (by decide +kernel), b, q, rfl, B, am, ?_⟩
    refine ⟨.ref b, rfl, b, dx, _, rfl, eb, bookF_none (by decide +kernel) (by decide +kernel) (by decide +kernel) (by decide +kernel) (by decide +kernel), .str x, rfl, .ref e, rfl, sz1000 (by decide : (3 : Nat) ≤ 1000), fun z1 nz1 => ?_⟩
    generalize h1' : upd H z1 _ = H1
    obtain ⟨s1, e1⟩ := new_of h1' nz1
    exact ⟨b, z1, q, "call", _, _, m, rfl, B.same s1, few, .inl (.inl e1), ⟨rfl, rfl⟩, gm, fun a H' Q' s' ma => ⟨a, e, x, r, m, rfl, ma, M, Same.tup (s1.trans s') he, ok, mx, has, fun H2 d s2 ed => k H2 d (s1.trans (s'.trans s2)) ed⟩⟩
theorem pss_impX {X : Cx} {b : List Stmt} {t t' : TS} (h : PSs X b t) (i : ∀ D σ H, σ.length = X.N.length → t' D σ H → t D σ H) : PSs X b t' := ⟨fun pins s σ H D I q => h.run pins s σ H D I (i D σ H I.len q)⟩
def sp_called16 (K : PySem.W.Frag) (mg : Str → Option Value) : Sp := fun vs H Q _ => ∃ (b e : Addr) (q : BookS) (x : Str) (r : List Int) (m : Mom), vs = [.ref b, .str x, .ref e] ∧ BookAt K mg H b q ∧ q.amid = false ∧ q.deeds.length < 60 ∧ q.moms[q.moms.length - 1]? = some m ∧ MomOk 900 m ∧ SqT K H e (r.map V.int) ∧ RowsOk m.p m.n [r] ∧ x ∈ m.hands.map Prod.fst ∧
  ((hasR m.p m.n (plainR m.p m.n (heardM m [x])) r = true ∧ ∀ H', Xc b H H' → BookAt K mg H' b (q.push (callM m r) (.call x r)) → Q (.str "") H') ∨ (hasR m.p m.n (plainR m.p m.n (heardM m [x])) r = false ∧ ∀ H', Same H H' → Q (.str x) H'))
theorem ok__law_called (T : Top K mg) (W : StepsW w K mg) : Ok P w K mg base 14 "_law_called" ["_law_book", "_law_hand", "_law_row_here"] (sp_called16 K mg) := by
  have O_Book_call := ok_Book_call (P := P) (w := w) (base := base) T W
  have OX_Book_call := okX_Book_call (P := P) (w := w) (base := base) T W
  refine T.d__law_called.ok sc__law_called (fun vs H Q E h => ?_) (fun f cdv A outer s H vs Q E hr h => ?_)
  · obtain ⟨b, e, q, x, r, m, rfl, _⟩ := h
    rfl
  · obtain ⟨b, e, q, x, r, m, rfl, B, am, few, gm, M, he, ok, mx, h⟩ := h
    obtain ⟨⟨dx, w', t', u, v', ws, eb, h1, h2, h3, h4, h5⟩, nd, len⟩ := id B
    rcases h with ⟨has, k⟩ | ⟨has, k⟩
    · refine ⟨_, pss_cons (ps_try_as (X := (cxOf C8.CX0 P w K mg base N__law_called "_law_called" (defScope s__law_called) f cdv A outer s H E).nox) (c := .ref (adr mg "NotKnown")) (i := 3) (ts := fun _ _ _ _ _ _ => False) (tb := fun _ => tDrop (tMeth (adr mg "Book") "call" (sp_bcall K mg) [] E0 (tVar 0) (tCons (tVar 1) (tCons (tVar 2) tNil)))) rfl rfl sc__law_called.nd rfl rfl ⟨(by rfl), (by decide), .inl T.e_NotKnown.g⟩ L2.takes0
        (fun W' pn xe tk _ => ?_) (fun a oe cls d pn hz hf => ⟨fun pins s σ H D I h => h.elim⟩)) (pss_one (ps_ret pe_str)), ?_⟩
      · exact pss_one (ps_expr (pe_methO O_Book_call T.k_Book (hr.mono (by omega)) (pv 0) (pa_cons (pv 1) (pa_cons (pv 2) pa_nil))))
      exact ⟨.ref b, rfl, b, dx, _, rfl, eb, bookF_none (by decide +kernel) (by decide +kernel) (by decide +kernel) (by decide +kernel) (by decide +kernel), .str x, rfl, .ref e, rfl, b, e, q, x, r, m, rfl, B, am, few, gm, M, he, ok, mx, has, k⟩
    · refine ⟨_, pss_cons (ps_try_as (X := (cxOf C8.CX0 P w K mg base N__law_called "_law_called" (defScope s__law_called) f cdv A outer s H E).nox) (c := .ref (adr mg "NotKnown")) (i := 3) (tb := fun W' => tDrop (tMethX (adr mg "Book") "call" (sp_bcallX K mg) [] (WE W') (tVar 0) (tCons (tVar 1) (tCons (tVar 2) tNil))))
        (ts := fun a cls d D σ H => (cls = .ref (adr mg "NotKnown") ∧ d.isSome = true) ∧ (σ.length = 5 → σ[3]? = some (some (.ref a))) ∧ ∃ dd, d = some dd ∧ H dd = some (.xd [(("name" : Str), V.str x)]) ∧ ∀ H', Same H H' → D.rt (.str x) H') rfl rfl sc__law_called.nd rfl rfl ⟨(by rfl), (by decide), .inl T.e_NotKnown.g⟩ L2.takes0
        (fun W' pn xe tk _ => ?_) (fun a oe cls d pn hz hf => pss_pre fun hp => ?_)) (pss_one (ps_ret pe_str)), ?_⟩
      · exact pss_one (ps_expr (pe_methXO OX_Book_call T.k_Book tk (hr.mono (by omega)) (pv 0) (pa_cons (pv 1) (pa_cons (pv 2) pa_nil))))
      · obtain ⟨rfl, hd⟩ := hp
        obtain ⟨dd, rfl⟩ := Option.isSome_iff_exists.mp hd
        have iE := call_isF (X := (cxOf C8.CX0 P w K mg base N__law_called "_law_called" (defScope s__law_called) f cdv A outer s H E).nox) (a := a) (pn := pn) T.e_NotKnown.c hz hf
        refine pss_impX (pss_cons (ps_set (i := 4) sc__law_called.nd rfl (.inl rfl) (pe_and (pe_callB iE (by rfl) T.b_isinstance (by decide +kernel) (pa_cons (pv 3) (pa_cons (pe_glob (v := .ref _) (by rfl) T.e_CallError.g rfl) pa_nil))) (pe_and (pe_callB iE (by rfl) T.b_isinstance (by decide +kernel) (pa_cons (pv 3) (pa_cons (pe_bltn (v := .ty "ValueError") (u := .type "ValueError") (by rfl) T.b_ValueError (by decide +kernel) rfl) pa_nil))) (pe_one (pe_not (pe_callB iE (by rfl) T.b_isinstance (by decide +kernel) (pa_cons (pv 3) (pa_cons (pe_glob (v := .ref _) (by rfl) T.e_NoRow.g rfl) pa_nil))))))))
          (pss_one (ps_ret (pe_ix ix_list (pe_lst (pa_cons pe_str (pa_cons (pe_fldE T.f_NotKnown T.e_NotKnown hz hf (pv 3)) pa_nil))) (pe_callTy call_int1 (by rfl) T.b_int (by decide +kernel) (pa_cons (pv 4) pa_nil)) (fun _ _ => rfl))))) (fun D σ H l h => ?_)
        obtain ⟨l3, dd', hd', he', hq⟩ := h
        cases hd'
        refine ⟨.ref a, l3 l, _, _, true, _, rfl, fun u r => r, kit_own (x := "NotKnown") T.e_CallError T.s_NotKnown_CallError (fun _ => rfl), he', true, rfl, iteT ?_⟩
        refine ⟨.ref a, l3 l, _, _, true, _, rfl, fun u r => r, kit_blt (by decide +kernel) T.s_NotKnown_ValueError, he', true, rfl, iteT ?_⟩
        have k3 := kit_own (x := "NotKnown") T.e_NoRow T.s_NotKnown_NoRow (fun z => absurd z (adr_ne T.s_NotKnown_NoRow T.s_NoRow_NoRow))
        have l5 : σ.length = 5 := l
        refine ⟨.ref a, l3 l, _, _, false, _, rfl, fun u r => r, k3, he', false, rfl, ?_⟩
        have g3 : (σ.set 4 (some (V.bl true)))[3]? = some (some (.ref a)) := (List.getElem?_set_ne (by decide)).trans (l3 l)
        have g4 : (σ.set 4 (some (V.bl true)))[4]? = some (some (.bl true)) := List.getElem?_set_self (by omega)
        refine ⟨.ref a, g3, rfl, rfl, dd, .str x, rfl, he', ?_⟩
        refine ⟨sz1000 (by decide : (2 : Nat) ≤ 1000), fun p np => ?_⟩
        generalize h7 : upd H p _ = H7
        obtain ⟨s7, e7⟩ := new_of h7 np
        refine ⟨.bl true, g4, .inr ⟨true, rfl, ?_⟩⟩
        exact ⟨p, _, 1, .str x, rfl, rfl, .inl (.inl e7), rfl, hq H7 s7⟩
      · refine ⟨.ref b, rfl, b, dx, _, rfl, eb, bookF_none (by decide +kernel) (by decide +kernel) (by decide +kernel) (by decide +kernel) (by decide +kernel), .str x, rfl, .ref e, rfl, b, e, q, x, r, m, rfl, B, am, few, gm, M, he, ok, mx, has, fun H' d s' ed => ?_⟩
        exact ⟨true, T.e_NotKnown.exm T.s_NotKnown_NotKnown, fun _ a na => ⟨⟨rfl, rfl⟩, fun l => by rw [List.length_set] at l; exact List.getElem?_set_self (by omega), d, rfl, ed, fun H'' s'' => k H'' (s'.trans s'')⟩, fun z => nomatch z⟩
end
end OC
set_option Elab.async false
set_option linter.all false
set_option maxRecDepth 100000
set_option maxHeartbeats 4000000
namespace OC
open PySem PySem.Spec PyProof.Rows L2
section
variable {P : Program} {w : World} {K : PySem.W.Frag} {mg : Str → Option Value} {base : Heap}
theorem HeardAt.put {K : PySem.W.Frag} {H : Hp} {x : Str} {r' : Addr} {rs' : List (List Int)} : ∀ {kvs : List (L2.Key × V)} {hs : List (Str × List (List Int))}, HeardAt K H kvs hs → (hs.map Prod.fst).Nodup → x ∈ hs.map Prod.fst → RowsAt K H r' rs' → HeardAt K H (putK kvs (kS x) (.ref r')) (hs.map fun h => if h.1 = x then (h.1, rs') else h) := fun {kvs} {hs} hh nd mx hr => by
  have ha : (kvs.any fun kv => decide (kv.1 = kS x)) = true := by
    obtain ⟨r, er, _⟩ := hh.get nd mx
    rw [valV_any, er]
    rfl
  unfold putK
  rw [if_pos ha]
  clear ha nd mx
  induction hh with
  | nil => exact .nil
  | @cons kv h kvs hs h1 _ ih =>
    obtain ⟨e, r, er, hr0⟩ := h1
    refine .cons ?_ ih
    show (if kv.1 = kS x then (kv.1, V.ref r') else kv).1 = kS (if h.1 = x then (h.1, rs') else h).1 ∧ ∃ r, (if kv.1 = kS x then (kv.1, V.ref r') else kv).2 = V.ref r ∧ RowsAt K H r (if h.1 = x then (h.1, rs') else h).2
    by_cases c : h.1 = x
    · rw [if_pos c, if_pos (by rw [e, c])]
      exact ⟨e, r', rfl, hr⟩
    · rw [if_neg c, if_neg fun z => c (Sum.inr.inj (e.symm.trans z))]
      exact ⟨e, r, er, hr0⟩
/-- told one more -/
theorem told_step {m : Mom} {ns : List Str} {x : Str} {r : List Int} (nd : (m.hands.map Prod.fst).Nodup) (nx : x ∉ ns) (mx : x ∈ m.hands.map Prod.fst) : ((whisperM m ns r).hands.map fun h => if h.1 = x then (h.1, selR [x] (whisperM m ns r).hands ++ [r]) else h) = (whisperM m (ns ++ [x]) r).hands := by
  have nd' : ((whisperM m ns r).hands.map Prod.fst).Nodup := by rw [whisperM_names]; exact nd
  have e : ∀ h ∈ (whisperM m ns r).hands, (if h.1 = x then (h.1, selR [x] (whisperM m ns r).hands ++ [r]) else h) = if h.1 = x then (h.1, h.2 ++ [r]) else h := fun h hh => by
    by_cases c : h.1 = x
    · rw [if_pos c, if_pos c]
      have := sel_one nd' hh
      rw [c] at this
      rw [this]
    · rw [if_neg c, if_neg c]
  rw [List.map_congr_left e]
  unfold whisperM
  rw [List.map_map]
  refine List.map_congr_left fun h hh => ?_
  show (if (if h.1 ∈ ns then (h.1, h.2 ++ [r]) else h).1 = x then ((if h.1 ∈ ns then (h.1, h.2 ++ [r]) else h).1, (if h.1 ∈ ns then (h.1, h.2 ++ [r]) else h).2 ++ [r]) else (if h.1 ∈ ns then (h.1, h.2 ++ [r]) else h)) = if h.1 ∈ ns ++ [x] then (h.1, h.2 ++ [r]) else h
  by_cases hm : h.1 ∈ ns
  · have c : h.1 ≠ x := fun z => nx (z ▸ hm)
    rw [if_pos hm, if_neg c, if_pos (List.mem_append_left _ hm)]
  · by_cases c : h.1 = x
    · rw [if_neg hm, if_pos c, if_pos (List.mem_append_right _ (List.mem_singleton.mpr c))]
    · rw [if_neg hm, if_neg c, if_neg fun z => (List.mem_append.mp z).elim hm fun w => c (List.mem_singleton.mp w)]
theorem whisper_nil (m : Mom) (r : List Int) : (whisperM m [] r).hands = m.hands := by
  unfold whisperM
  show m.hands.map (fun h => if h.1 ∈ ([] : List Str) then (h.1, h.2 ++ [r]) else h) = m.hands
  conv => rhs; rw [← List.map_id m.hands]
  exact List.map_congr_left fun h _ => if_neg fun z => nomatch z
theorem xcD_mv {mg : Str → Option Value} {H H' : Hp} {D : Addr} {kvs : List (L2.Key × V)} (e : H D = some (.dK kvs)) (x : Xc D H H') : Mv mg H H' := by
  refine ⟨fun K a xs h => ?_, fun a dx' p n c h e' => x _ _ e' fun z => by rw [z, e] at e'; cases e'⟩
  rcases h with (h | ⟨o, h⟩) | h
  · exact .inl (.inl (x _ _ h fun z => by rw [z, e] at h; cases h))
  · exact .inl (.inr ⟨o, x _ _ h fun z => by rw [z, e] at h; cases h⟩)
  · exact .inr h
theorem deck_xcD {H H' : Hp} {D d c : Addr} {t : Int} {kvs : List (L2.Key × V)} (D0 : Deck H d c t) (e : H D = some (.dK kvs)) (x : Xc D H H') : Deck H' d c t := by
  obtain ⟨hd, ⟨cells, h1, h2⟩, n, t0⟩ := D0
  exact ⟨x _ _ hd (fun z => by rw [z, e] at hd; cases hd), ⟨cells, x _ _ h1 (fun z => by rw [z, e] at h1; cases h1), h2⟩, n, t0⟩
theorem book_xcD {K : PySem.W.Frag} {mg : Str → Option Value} {H H' : Hp} {D b : Addr} {q : BookS} {kvs : List (L2.Key × V)} (B : BookAt K mg H b q) (e : H D = some (.dK kvs)) (x : Xc D H H') : BookAt K mg H' b q :=
  B.mv (xcD_mv e x) fun o eo => by
    obtain ⟨dxb, fs, eb⟩ := B.ins
    exact x _ _ eo fun z => by rw [z, e] at eb; cases eb
theorem whisper_all {m : Mom} {r : List Int} : (whisperM m (m.hands.map Prod.fst) r).hands = (callM m r).hands := List.map_congr_left fun h hh => if_pos (List.mem_map_of_mem hh)
theorem sel_len_le {ns : List Str} {B : Nat} : ∀ {hs : List (Str × List (List Int))}, (∀ h ∈ hs, h.2.length ≤ B) → (selR ns hs).length ≤ hs.length * B
  | [], _ => Nat.zero_le _
  | h :: hs, a => by
    have ih := sel_len_le (ns := ns) fun x hx => a x (List.mem_cons_of_mem _ hx)
    have h1 := a h List.mem_cons_self
    rw [selR_cons, List.length_append, List.length_cons, Nat.add_mul, Nat.one_mul]
    split
    · omega
    · rw [List.length_nil]
      omega
theorem heard_len_le {m : Mom} {B : Nat} (M : MomOk B m) (h5 : m.hands.length ≤ 5) (ns : List Str) : (heardM m ns).length ≤ 5 * B := by
  unfold heardM
  have lc := M.lc
  split
  · omega
  · refine Nat.le_trans (sel_len_le M.lh) ?_
    exact Nat.mul_le_mul_right _ h5
theorem ModAt.xc {K : PySem.W.Frag} {mg : Str → Option Value} {H H' : Hp} {a b : Addr} {m : Mom} {q : BookS} (B : BookAt K mg H b q) (x : Xc b H H') (h : ModAt K H a m) : ModAt K H' a m := by
  obtain ⟨dxb, fs, eb⟩ := B.ins
  obtain ⟨D', t', kvs, e1, e2, e3, e4, ne⟩ := h.ex
  have tk := (B.xc x).tk
  exact ⟨D', t', kvs, x _ _ e1 (fun z => by rw [z, eb] at e1; cases e1), x _ _ e2 (fun z => by rw [z, eb] at e2; cases e2), e3.tk tk, e4.tk tk, ne⟩
theorem mom_start17 {p : Int} {n : Nat} {hs : List (Str × List (List Int))} (R : MadeR p n hs) (n8 : n ≤ 8) : MomOk 8 ⟨p, n, [], hs⟩ where
  fld := R.fld
  p1 := by have := R.p1; show p ≤ 1000; omega
  n1 := R.n1
  n8 := n8
  okc := fun r hr => nomatch hr
  okh := fun h hh => (R.okh h hh).1
  inn := fun h hh r hr => nomatch hr
  few := R.few
  many := by have := R.many; show hs.length ≤ 6; omega
  srt := R.srt
  nd := R.nd
  nm := R.nm
  lc := Nat.zero_le _
  lh := fun h hh => (R.okh h hh).2
theorem deck_xcI {C dx d c b : Addr} {t : Int} {H H' : Hp} {fs : List (Str × V)} (D : Deck H d c t) (e : H b = some (.ins C dx fs)) (x : Xc b H H') : Deck H' d c t := by
  obtain ⟨hd, ⟨cells, h1, h2⟩, n, t0⟩ := D
  exact ⟨x _ _ hd (fun z => by rw [z, e] at hd; cases hd), ⟨cells, x _ _ h1 (fun z => by rw [z, e] at h1; cases h1), h2⟩, n, t0⟩
theorem ModAt.keptD {K : PySem.W.Frag} {H H' : Hp} {a d c : Addr} {t : Int} {m : Mom} (D : Deck H d c t) (k : Kept d c H H') (h : ModAt K H a m) : ModAt K H' a m := by
  obtain ⟨D', t', kvs, e1, e2, e3, e4, ne⟩ := h.ex
  have up : ∀ {a kvs}, H a = some (.dK kvs) → H' a = some (.dK kvs) := fun {a kvs} e => by
    refine k _ _ e (fun z => ?_) (fun z => ?_)
    · obtain ⟨hd, _⟩ := D
      rw [z, hd] at e
      cases e
    · obtain ⟨_, ⟨cells, hc, _⟩, _⟩ := D
      rw [z, hc] at e
      cases e
  exact ⟨D', t', kvs, up e1, up e2, e3.tk (deck_tk D k), e4.tk (deck_tk D k), ne⟩
theorem comb_ok16 {p : Int} {n : Nat} {room : List (List Int)} {fs : List Int} (hF : Fld p) (h : RowsOk p n room) : RowsOk p n [madeR p (List.replicate n 0) (room.zip fs)] := by
  have h2 := hF.1
  exact rowsOk_one ⟨made_len p n _ _ List.length_replicate fun x hx => (h x.1 (List.of_mem_zip hx).1).1, made_bd (by omega) _ _ (row_noughts' (by omega) n).2⟩
theorem within_iff {p : Int} {n : Nat} {rs : List (List Int)} {r : List Int} {x : Bool} (F : Fld p) (ok : RowsOk p n rs) (or' : RowsOk p n [r]) (h : x = true ↔ ∀ y ∈ leftR p (plainR p n rs) r, y = 0) : x = hasR p n (plainR p n rs) r := by
  have P := PFR.of_plain F ok
  have l := (PFR.left_ok F P or' _ List.mem_cons_self).1
  rw [← left_iff F P or']
  refine Bool.eq_iff_iff.mpr ?_
  rw [h, decide_eq_true_iff]
  exact (noughts_iff l).symm
def sp_law (K : PySem.W.Frag) : Sp := fun vs H Q _ => ∃ (a : Addr) (ns : List Int), vs = [.ref a] ∧ SqL K H a (ns.map V.int) ∧ ns.length ≤ 63 ∧ ∀ H', Q (.bl true) H'
theorem ok_law (T : Top K mg) (W : StepsW w K mg) {f : Addr} {fd : FuncData} (F : Fun K "law" "law" s_law f fd) : FnG P w K mg base CX0 15 f fd ["_law_script"] (sp_law K) := by
  have O__law_deck := ok__law_deck (P := P) (w := w) (base := base) T
  have O__law_draw := ok__law_draw (P := P) (w := w) (base := base) T
  have O__law_begun := ok__law_begun (P := P) (w := w) (base := base) T
  have O__law_model := ok__law_model (P := P) (w := w) (base := base) T
  have O__law_row := ok__law_row (P := P) (w := w) (base := base) T
  have O__law_made_of := ok__law_made_ofN (P := P) (w := w) (base := base) T
  have O__law_within := ok__law_within (P := P) (w := w) (base := base) T
  have O__law_room_by := ok__law_room_by (P := P) (w := w) (base := base) T
  have O__law_called := ok__law_called (P := P) (w := w) (base := base) T W
  have O__law_all_right := ok__law_all_right (P := P) (w := w) (base := base) T
  have O_Book___init__ := ok_Book___init__ (P := P) (w := w) (base := base) T
  refine funG F sc_law (fun vs H Q E h => ?_) (fun cdv A outer s H vs Q E hr hgd h => ?_)
  · obtain ⟨a, ns, rfl, _⟩ := h
    rfl
  · obtain ⟨a, ns, rfl, hS, hl, qq⟩ := h
    refine ⟨_, ((pss_cons (ps_set (i := 1) sc_law.nd rfl (.inr rfl) (pe_callO O__law_deck (hr.mono (by omega)) (by rfl) (pa_cons (pv 0) pa_nil)))
      (pss_cons (ps_set (i := 2) sc_law.nd rfl (.inl rfl) (pe_callO O__law_begun (hr.mono (by omega)) (by rfl) (pa_cons (pv 1) (pa_cons pe_int pa_nil))))
      (pss_cons (ps_asg (pv 2) (pg_tup (by rfl) (pgs_cons (pg_name (i := 3) sc_law.nd rfl (.inr rfl)) (pgs_cons (pg_name (i := 4) sc_law.nd rfl (.inl rfl)) (pgs_cons (pg_name (i := 5) sc_law.nd rfl (.inl rfl)) pgs_nil)))))
      (pss_cons (ps_set (i := 6) sc_law.nd rfl (.inl rfl) (pe_makeO O_Book___init__ T.k_Book (hr.mono (by omega)) (by rfl) (pa_cons (pv 3) (pa_cons (pv 4) (pa_cons (pv 5) pa_nil)))))
      (pss_cons (ps_set (i := 7) sc_law.nd rfl (.inl rfl) (pe_callO O__law_model (hr.mono (by omega)) (by rfl) (pa_cons (pv 2) pa_nil)))
      (pss_cons (ps_if (pt_not (pt_val (pe_callO O__law_all_right (hr.mono (by omega)) (by rfl) (pa_cons (pv 6) (pa_cons (pv 7) pa_nil)))))
        (pss_one (ps_ret pe_bl))
        pss_nil)
      (pss_cons (ps_for PassesOwn.never (by rfl) (pi_range1 (by rfl) T.b_range (pa_cons (pe_op op_add pe_int (pe_callO O__law_draw (hr.mono (by omega)) (by rfl) (pa_cons (pv 1) (pa_cons pe_int pa_nil)))) pa_nil)) (pg_name (i := 8) sc_law.nd rfl (.inl rfl))
        (pss_cons (ps_asg (pe_ix ix_tup (pv 5) (pe_callO O__law_draw (hr.mono (by omega)) (by rfl) (pa_cons (pv 1) (pa_cons (pe_callB call_len_seq (by rfl) T.b_len (by decide +kernel) (pa_cons (pv 5) pa_nil)) pa_nil))) (fun _ _ => rfl)) (pg_tup (by rfl) (pgs_cons (pg_name (i := 9) sc_law.nd rfl (.inl rfl)) (pgs_cons (pg_name (i := 10) sc_law.nd rfl (.inl rfl)) pgs_nil))))
        (pss_cons (ps_set (i := 11) sc_law.nd rfl (.inl rfl) (pe_dget (units1 hr) (pe_dget (units1 hr) (pv 7) pe_str (fun _ _ => rfl)) (pv 9) (fun _ _ => rfl)))
        (pss_cons (ps_set (i := 13) sc_law.nd rfl (.inl rfl) (pe_callO O__law_made_of (hr.mono (by omega)) (by rfl) (pa_cons (pv 3) (pa_cons (pv 4) (pa_cons (pv 11) (pa_cons (pe_lc (own := [("_law_one", 12)]) (g := gName 12) (by rfl) sc_law.nd (pi_tup (pv 11)) (blkOk_by (own := [("_law_one", 12)]) (N := N_law) (sc := defScope s_law) (by decide +kernel)) (fun _ _ _ _ _ => (pg_name (i := 12) sc_law.nd rfl (.inl rfl))) (fun _ _ _ _ _ => pts_nil) (fun _ _ _ _ _ => (pe_callO O__law_draw (hr.mono (by omega)) (by rfl) (pa_cons (pv 1) (pa_cons (pv 3) pa_nil))))) pa_nil))))))
        (C8.pss_cut (ps_if (pt_cmpR op_eq (pe_callO O__law_draw (hr.mono (by omega)) (by rfl) (pa_cons (pv 1) (pa_cons pe_int pa_nil))) pe_int (nomark _))
          (pss_one (ps_set (i := 13) sc_law.nd rfl (.inl rfl) (pe_callO O__law_row (hr.mono (by omega)) (by rfl) (pa_cons (pv 1) (pa_cons (pv 3) (pa_cons (pv 4) pa_nil))))))
          pss_nil)
        (pss_cons (ps_set (i := 14) sc_law.nd rfl (.inl rfl) (pe_ix ix_list (pe_lst (pa_cons (pv 9) (pa_cons pe_str pa_nil))) (pe_callTy call_int1 (by rfl) T.b_int (by decide +kernel) (pa_cons (pe_callO O__law_within (hr.mono (by omega)) (by rfl) (pa_cons (pv 3) (pa_cons (pe_callO O__law_room_by (hr.mono (by omega)) (by rfl) (pa_cons (pv 7) (pa_cons (pe_tup (pa_cons (pv 9) pa_nil)) pa_nil))) (pa_cons (pv 13) pa_nil)))) pa_nil)) (fun _ _ => rfl)))
        (pss_cons (ps_if (pt_cmpR op_ne (pe_callO O__law_called (hr.mono (by omega)) (by rfl) (pa_cons (pv 6) (pa_cons (pv 9) (pa_cons (pv 13) pa_nil)))) (pv 14) (nomark _))
          (pss_one (ps_ret pe_bl))
          pss_nil)
        (C8.pss_cut (ps_if (pt_cmpR op_eq (pv 14) pe_str (nomark _))
          (pss_cons (ps_for PassesOwn.never (by rfl) (pi_tup (pv 5)) (pg_tup (by rfl) (pgs_cons (pg_name (i := 12) sc_law.nd rfl (.inl rfl)) (pgs_cons (pg_name (i := 10) sc_law.nd rfl (.inl rfl)) pgs_nil)))
            (pss_one (ps_dput (units1 hr) (pe_dget (units1 hr) (pv 7) pe_str (fun _ _ => rfl)) (pv 12) (pe_op op_catB (pe_dget (units1 hr) (pe_dget (units1 hr) (pv 7) pe_str (fun _ _ => rfl)) (pv 12) (fun _ _ => rfl)) (pe_tup (pa_cons (pv 13) pa_nil))) (by rfl))))
          (pss_one (ps_dput (units1 hr) (pv 7) pe_str (pe_op op_catB (pe_dget (units1 hr) (pv 7) pe_str (fun _ _ => rfl)) (pe_tup (pa_cons (pv 13) pa_nil))) (by rfl))))
          pss_nil)
        (pss_one (ps_if (pt_not (pt_val (pe_callO O__law_all_right (hr.mono (by omega)) (by rfl) (pa_cons (pv 6) (pa_cons (pv 7) pa_nil)))))
          (pss_one (ps_ret pe_bl))
          pss_nil))))))))))
      (pss_one (ps_ret pe_bl)))))))))), ?_⟩
    refine ⟨.ref a, rfl, a, ns, rfl, hS, hl, fun H1 d c s1 D1 _ _ => ?_⟩
    refine ⟨.ref d, rfl, d, c, 0, 5, rfl, D1, by decide, by decide, by decide, fun H2 mk g ws t2 p n hs k2 D2 ht2 e2 hgF dg R nhi => ?_⟩
    have n8 : n ≤ 8 := by omega
    have hm2 : SqT K H2 mk [.int p, .int (n : Int), .ref g] := .inl (.inl e2)
    refine ⟨.ref mk, rfl, mk, _, rfl, hm2, rfl, _, _, rfl, _, _, rfl, _, _, rfl, rfl, ?_⟩
    have n8 : n ≤ 8 := by omega
    refine ⟨.int p, rfl, .int (n : Int), rfl, .ref g, rfl, ?_⟩
    refine fun b dx nb ndx ne => ?_
    generalize hB : upd (upd H2 dx (.own b)) b _ = HB
    have sB : Same H2 HB := fun z o e => by
      have n1 : z ≠ b := fun y => by rw [y, nb] at e; cases e
      have n2 : z ≠ dx := fun y => by rw [y, ndx] at e; cases e
      rw [← hB, upd_ne n1, upd_ne n2]
      exact e
    have eB : HB b = some (.ins (adr mg "Book") dx []) := by rw [← hB]; exact upd_same
    refine ⟨b, dx, g, p, n, hs, rfl, eB, .tup (TupF.sq (TupF.same sB hgF)) (dpAll_same sB _ _ dg), fun H3 x3 B3 => ⟨rfl, ?_⟩⟩
    have hmB : HB mk = some (.tup [.int p, .int (n : Int), .ref g]) := sB _ _ e2
    have hm3 : H3 mk = some (.tup [.int p, .int (n : Int), .ref g]) := x3 _ _ hmB fun z => by rw [z, eB] at hmB; cases hmB
    have hg3 : TupF H3 g ws := by
      obtain ⟨o, od, e⟩ := TupF.same sB hgF
      exact ⟨o, od, x3 _ _ e fun z => by rw [z, eB] at e; cases e⟩
    have m3 : Mv mg HB H3 := x3.mvI eB rfl
    have dg3 : DpAll K H3 ws (hs.map handD) := dpAll_tk m3.tk _ _ (noL_hands hs) (dpAll_same sB _ _ dg)
    have D3 : Deck H3 d c t2 := deck_xcI (D2.same sB) eB x3
    refine ⟨.ref mk, rfl, mk, g, ws, p, n, hs, rfl, hm3, hg3, dg3, R, fun H4 l s4 ml => ?_⟩
    have lws := dpAll_len dg
    rw [List.length_map] at lws
    have lhs5 := R.many
    have lhs2 := R.few
    have p5 := R.p5
    have p101 := R.p1
    have n1 := R.n1
    have F := R.fld
    have I3 : BookI p n (hs.map Prod.fst) 8 ⟨.tuple [.int p, .int (n : Int), .tuple (hs.map handD)], [⟨p, n, [], hs⟩], [], [], false⟩ := ⟨rfl, (fun m hm => by
      rw [List.mem_singleton.mp hm]
      exact ⟨mom_start17 R n8, rfl, rfl, rfl⟩), (fun x r hx => nomatch hx), Nat.zero_le _, rfl⟩
    refine ⟨.ref b, rfl, .ref l, rfl, b, l, _, ⟨p, n, [], hs⟩, rfl, B3.same s4, rfl, rfl, (mom_start17 R n8).mono (by decide), fun ns => Nat.le_trans (heard_len_le (mom_start17 R n8) lhs5 ns) (by decide), ml, fun H4' s4' => ⟨true, rfl, iteF ?_⟩⟩
    have s44 := s4.trans s4'
    have D4 := D3.same s44
    generalize hnm : hs.map Prod.fst = nm at I3
    refine ⟨.ref d, rfl, d, c, t2, 12, rfl, D4, by omega, by decide, by decide, fun H5 z k5 D5 z0 z1 => ⟨1, z, rfl, rfl, 1 + z, rfl, by omega, by omega, for_range (lo := 0) (n := (1 + z).toNat) (fun i σ H' => ∃ (q : BookS) (t' : Int) (m : Mom) (y8 y9 y10 y11 y12 y13 y14 : Option V), Deck H' d c t' ∧ t' ≤ t2 + 1 + 400 * i ∧ SqT K H' g ws ∧ DpAll K H' ws (hs.map handD) ∧ BookAt K mg H' b q ∧ BookI p n nm (8 + i) q ∧ q.moms[q.moms.length - 1]? = some m ∧ ModAt K H' l m ∧ σ = [some (.ref a), some (.ref d), some (.ref mk), some (.int p), some (.int (n : Int)), some (.ref g), some (.ref b), some (.ref l), y8, y9, y10, y11, y12, y13, y14])
      ⟨_, _, ⟨p, n, [], hs⟩, none, none, none, none, none, none, none, D5, by omega, Kept.tup D4 k5 (Same.tup s44 (TupF.sq hg3)), dpAll_tk (deck_tk D4 k5) _ _ (noL_hands hs) (dpAll_same s44 _ _ dg3), (B3.same s44).kept D4 k5, I3, rfl, ModAt.keptD D4 k5 (ml.same s4'), rfl⟩ (fun i σ H7 hi hW => ?_) (fun σ H7 hW => qq H7)⟩⟩
    obtain ⟨q, t7, m, y8, y9, y10, y11, y12, y13, y14, D7, ht7, hg7, dg7, B7, I7, gm, ml7, rfl⟩ := hW
    obtain ⟨m', gm', M, e1', e2', e3'⟩ := I7.last
    cases gm.symm.trans gm'
    have fewd := I7.few
    have lq := I7.len
    have lnm : nm.length = hs.length := by rw [← hnm, List.length_map]
    have hm5 : m.hands.length ≤ 5 := by
      have := congrArg List.length e3'
      rw [List.length_map] at this
      omega
    refine ⟨.ref g, rfl, .ref d, rfl, .ref g, rfl, g, _, rfl, .inr hg7, d, c, t7, ws.length, rfl, D7, by omega, by omega, by omega, fun H8 j' k8 D8 j0 j1 => ?_⟩
    obtain ⟨j, rfl⟩ : ∃ j : Nat, j' = (j : Int) := ⟨j'.toNat, by omega⟩
    have hj : j < ws.length := by omega
    have dg8 := dpAll_tk (deck_tk D7 k8) _ _ (noL_hands hs) dg7
    have hg8 := Kept.tup D7 k8 hg7
    obtain ⟨c', rr, y, ev, gy, my, hc', hrr⟩ := dpAll_hand dg8 (List.getElem?_eq_getElem hj)
    refine ⟨g, _, j, .ref c', rfl, rfl, hg8, atI_nat (j := j) (by rw [List.getElem?_eq_getElem hj, ev]), c', _, rfl, hc', rfl, _, _, rfl, _, _, rfl, rfl, ?_⟩
    obtain ⟨x, rsy⟩ := y
    have mx : x ∈ m.hands.map Prod.fst := by rw [e3', ← hnm]; exact List.mem_map_of_mem my
    have ml8 := ml7.keptD D7 k8
    have B8 := B7.kept D7 k8
    obtain ⟨DD, tt, kvs, f1, f2, hh, htt, neD⟩ := id ml8.ex
    have ndm := M.nd
    obtain ⟨r0, er0, w0, hr0, dr0⟩ := hh.get ndm mx
    obtain ⟨h0, mh0, eh0⟩ := List.mem_map.mp mx
    have esel : selR [x] m.hands = h0.2 := by rw [← eh0]; exact sel_one ndm mh0
    rw [esel] at dr0
    have okR := M.okh h0 mh0
    have lR := M.lh h0 mh0
    have lw0 := rows_len dr0
    have M100 := M.mono (show 8 + i ≤ 100 by omega)
    have m1 := M.p1
    refine ⟨.ref l, rfl, l, .ref DD, rfl, .inl ⟨_, kS "heard", .inl f1, rfl, rfl⟩, .str x, rfl, DD, .ref r0, rfl, .inl ⟨_, kS x, .inl f2, rfl, er0.symm⟩, ?_⟩
    refine ⟨.int p, rfl, .int (n : Int), rfl, .ref r0, rfl, .ref r0, rfl, r0, rfl, ⟨_, hr0⟩, lc_drawnW (p := p) (t := t7 + 1) (walk_tup (K := K) (a := r0) (xs := w0)) D8 (fun H' k' => Kept.tup D8 k' hr0) (by omega) (fun _ => rfl) (fun v jj t' H' Q' kH D' ht' hj hQ => ?_) (fun L H9 t9 fs k9 D9 ht9 nL eL lf bf => ?_)⟩
    · exact ⟨.ref d, rfl, .int p, rfl, d, c, t', p, rfl, D', by omega, by omega, by omega, fun Ha xa ka Da x0 x1 => hQ Ha _ xa ka Da (by omega) x0 x1⟩
    refine ⟨r0, L, w0, h0.2, fs, p, n, rfl, Kept.tup D8 k9 hr0, dpAll_tk (deck_tk D8 k9) _ _ (noL_rows _) dr0, .inl (.inl eL), by omega, by omega, by omega, by omega, fun r hr => ⟨by rw [← e2']; exact (okR r hr).1, fun x hx => by have := (okR r hr).2 x hx; omega⟩, fun f hf => by have := bf f hf; omega, fun H10 zr s10 e10 => ?_⟩
    have ok10 : RowsOk p n [madeR p (List.replicate n 0) (h0.2.zip fs)] := comb_ok16 F (by rw [← e1', ← e2']; exact okR)
    generalize madeR p (List.replicate n 0) (h0.2.zip fs) = r10 at e10 ok10
    have k810 := k9.trans (Kept.of s10)
    have D10 := D9.same s10
    have ml10 := (ml8.keptD D8 k9).same s10
    have B10 := (B8.kept D8 k9).same s10
    have hg10 := Same.tup s10 (Kept.tup D8 k9 hg8)
    have dg10 := dpAll_same s10 _ _ (dpAll_tk (deck_tk D8 k9) _ _ (noL_hands hs) dg8)
    refine ⟨fun σ' H' => ∃ (t' : Int) (zr : Addr) (r : List Int) (y10 y11 y12 y14 : Option V), Deck H' d c t' ∧ t' ≤ t7 + 300 ∧ SqT K H' g ws ∧ DpAll K H' ws (hs.map handD) ∧ BookAt K mg H' b q ∧ ModAt K H' l m ∧ SqT K H' zr (r.map V.int) ∧ RowsOk p n [r] ∧ σ' = [some (.ref a), some (.ref d), some (.ref mk), some (.int p), some (.int (n : Int)), some (.ref g), some (.ref b), some (.ref l), some (.int (0 + (i : Int))), some (.str x), y10, y11, y12, some (.ref zr), y14], ?_, fun σ' H' hN => ?_⟩
    · refine ⟨.ref d, rfl, d, c, t9, 3, rfl, D10, by omega, by decide, by decide, fun H11 u k11 D11 u0 u1 => ⟨rfl, _, rfl, ite2 (fun _ => ?_) (fun _ => ?_)⟩⟩
      · refine ⟨.ref d, rfl, .int p, rfl, .int (n : Int), rfl, d, c, _, p, n, rfl, D11, by omega, by omega, by omega, n1, by omega, fun H12 za ra ta ka Da hta na ea oka => ?_⟩
        exact ⟨ta, za, ra, _, _, _, _, Da, by omega, Kept.tup D11 ka (Kept.tup D10 k11 hg10), dpAll_tk (deck_tk D11 ka) _ _ (noL_hands hs) (dpAll_tk (deck_tk D10 k11) _ _ (noL_hands hs) dg10), (B10.kept D10 k11).kept D11 ka, (ml10.keptD D10 k11).keptD D11 ka, .inl (.inl ea), oka, rfl⟩
      · exact ⟨_, zr, r10, _, _, _, _, D11, by omega, Kept.tup D10 k11 hg10, dpAll_tk (deck_tk D10 k11) _ _ (noL_hands hs) dg10, B10.kept D10 k11, ml10.keptD D10 k11, Kept.tup D10 k11 (.inl (.inl e10)), ok10, rfl⟩
    obtain ⟨t', zr', r, y10', y11', y12', y14', D', ht', hg', dg', B', ml', hr', okr, rfl⟩ := hN
    subst e1' e2'
    refine ⟨.str x, rfl, sz1000 (by decide : (2 : Nat) ≤ 1000), fun o no => ?_⟩
    generalize h12 : upd H' o _ = H12
    obtain ⟨s12, eo⟩ := new_of h12 no
    refine ⟨.int m.p, rfl, .ref l, rfl, .str x, rfl, sz1000 (by decide : (1 : Nat) ≤ 1000), fun z nz => ?_⟩
    generalize h13 : upd H12 z _ = H13
    obtain ⟨s13, ez⟩ := new_of h13 nz
    have lhx : (heardM m [x]).length ≤ 100 := Nat.le_trans (heard_len_le M hm5 [x]) (by omega)
    have okh := heard_okM M [x]
    refine ⟨l, z, m, [x], 8 + i, rfl, (ml'.same s12).same s13, .inl (.inl ez), List.singleton_sublist.mpr mx, M, lhx, fun h mh => Nat.le_trans (M.lh h mh) (by omega), fun H14 lr s14 hlr => ?_⟩
    have sx4 := s12.trans (s13.trans s14)
    obtain ⟨wl, hl1, hl2⟩ := hlr
    refine ⟨.ref zr', rfl, lr, zr', wl, _, r, m.p, m.n, rfl, .inr hl1, hl2, Same.tup sx4 hr', (PFR.of_plain F okh).1, PFR.fp_lt F (PFR.of_plain F okh), okr, by omega, by omega, n1, by omega, ?_, fun H15 xb s15 hx => ?_⟩
    · have := PFR.len F (PFR.of_plain F okh)
      omega
    have ehx := within_iff F okh okr hx
    have s16 := sx4.trans s15
    have B15 := B'.same s16
    have ml15 := ml'.same s16
    have hg15 := Same.tup s16 hg'
    have dg15 := dpAll_same s16 _ _ dg'
    have hr15 := Same.tup s16 hr'
    have D15 := D'.same s16
    have eo15 := (s13.trans (s14.trans s15)) _ _ eo
    refine .inr ⟨xb, rfl, ?_⟩
    have M900 := M.mono (show 8 + i ≤ 900 by omega)
    cases hb : hasR m.p m.n (plainR m.p m.n (heardM m [x])) r with
    | false =>
      rw [hb] at ehx
      subst ehx
      refine ⟨o, _, 0, .str x, rfl, rfl, .inl (.inl eo15), rfl, ?_⟩
      refine ⟨.ref b, rfl, .str x, rfl, .ref zr', rfl, b, zr', q, x, r, m, rfl, B15, I7.amid, by omega, gm, M900, hr15, okr, mx, .inr ⟨hb, fun H17 s17 => ?_⟩⟩
      refine ⟨.str x, rfl, rfl, _, rfl, ?_⟩
      rw [show (!decide (V.str x = V.str x)) = false by simp]
      refine iteF ?_
      refine ⟨fun σ' H' => ∃ (q' : BookS) (m' : Mom) (t' : Int) (y9 y10 y11 y12 y13 y14 : Option V), Deck H' d c t' ∧ t' ≤ t7 + 300 ∧ SqT K H' g ws ∧ DpAll K H' ws (hs.map handD) ∧ BookAt K mg H' b q' ∧ BookI m.p m.n nm (8 + (i + 1)) q' ∧ q'.moms[q'.moms.length - 1]? = some m' ∧ ModAt K H' l m' ∧ σ' = [some (.ref a), some (.ref d), some (.ref mk), some (.int m.p), some (.int (m.n : Int)), some (.ref g), some (.ref b), some (.ref l), some (.int (0 + (i : Int))), y9, y10, y11, y12, y13, y14], ?_, fun σ' Hf hN => ?_⟩
      · refine ⟨.str x, rfl, rfl, _, rfl, ?_⟩
        rw [decide_eq_false (fun z => by
          have nx := (M.nm x mx).1
          cases z
          exact absurd nx (by decide))]
        refine iteF ?_
        exact ⟨q, m, _, _, _, _, _, _, _, D15.same s17, by omega, Same.tup s17 hg15, dpAll_same s17 _ _ dg15, B15.same s17, I7.mono (by omega), gm, ml15.same s17, rfl⟩
      · obtain ⟨q', m', tf, z9, z10, z11, z12, z13, z14, Df, htf, hgf, dgf, Bf, If, gmf, mlf, rfl⟩ := hN
        obtain ⟨m'', gm'', M', a1, a2, a3⟩ := If.last
        cases gmf.symm.trans gm''
        have h5' : m'.hands.length ≤ 5 := by
          have := congrArg List.length a3
          rw [List.length_map] at this
          omega
        refine ⟨.ref b, rfl, .ref l, rfl, b, l, q', m', rfl, Bf, If.len, gmf, M'.mono (by omega), fun ns => Nat.le_trans (heard_len_le M' h5' ns) (by omega), mlf, fun Hz sz => ⟨true, rfl, iteF ?_⟩⟩
        exact ⟨q', tf, m', _, _, _, _, _, _, _, Df.same sz, by omega, Same.tup sz hgf, dpAll_same sz _ _ dgf, Bf.same sz, If, gmf, mlf.same sz, rfl⟩
    | true =>
      rw [hb] at ehx
      subst ehx
      refine ⟨o, _, 1, .str "", rfl, rfl, .inl (.inl eo15), rfl, ?_⟩
      refine ⟨.ref b, rfl, .str x, rfl, .ref zr', rfl, b, zr', q, x, r, m, rfl, B15, I7.amid, by omega, gm, M900, hr15, okr, mx, .inl ⟨hb, fun H17 x17 B17 => ?_⟩⟩
      refine ⟨.str "", rfl, rfl, _, rfl, ?_⟩
      rw [show (!decide (V.str ("" : Str) = V.str "")) = false by simp]
      refine iteF ?_
      refine ⟨fun σ' H' => ∃ (q' : BookS) (m' : Mom) (t' : Int) (y9 y10 y11 y12 y13 y14 : Option V), Deck H' d c t' ∧ t' ≤ t7 + 300 ∧ SqT K H' g ws ∧ DpAll K H' ws (hs.map handD) ∧ BookAt K mg H' b q' ∧ BookI m.p m.n nm (8 + (i + 1)) q' ∧ q'.moms[q'.moms.length - 1]? = some m' ∧ ModAt K H' l m' ∧ σ' = [some (.ref a), some (.ref d), some (.ref mk), some (.int m.p), some (.int (m.n : Int)), some (.ref g), some (.ref b), some (.ref l), some (.int (0 + (i : Int))), y9, y10, y11, y12, y13, y14], ?_, fun σ' Hf hN => ?_⟩
      · refine ⟨.str "", rfl, rfl, _, rfl, ?_⟩
        rw [decide_eq_true rfl]
        refine iteT ?_
        have D17 := D15.xc B15 x17
        have ml17 := ModAt.xc B15 x17 ml15
        have tk17 := (B15.xc x17).tk
        have hg17 := tk17 _ _ _ hg15
        have dg17 := dpAll_tk tk17 _ _ (noL_hands hs) dg15
        have hr17 := tk17 _ _ _ hr15
        obtain ⟨D2, t2', kv2, g1, g2, hh2, htt2, neD2⟩ := id ml17.ex
        have ndn : nm.Nodup := by rw [← e3']; exact ndm
        have lkv2 : kv2.length = m.hands.length := by
          have := congrArg List.length hh2.keys
          rw [List.length_map, List.length_map] at this
          exact this
        refine ⟨.ref g, rfl, g, rfl, ⟨_, hg17⟩, for_it (walk_tup (K := K) (a := g) (xs := ws)) (fun k σ H' => ∃ (kv : List (L2.Key × V)) (y10 y12 : Option V), Xc D2 H17 H' ∧ H' D2 = some (.dK kv) ∧ HeardAt K H' kv (whisperM m (nm.take k) r).hands ∧ kv.length = m.hands.length ∧ σ = [some (.ref a), some (.ref d), some (.ref mk), some (.int m.p), some (.int (m.n : Int)), some (.ref g), some (.ref b), some (.ref l), some (.int (0 + (i : Int))), some (.str x), y10, y11', y12, some (.ref zr'), some (.str "")])
          ⟨kv2, _, _, Xc.refl, g2, by rw [List.take_zero, whisper_nil]; exact hh2, lkv2, rfl⟩ (fun k σ H' _ hW => ?_) (fun k v σ Ha Hb hk hW hY => ?_) (fun σ Ha hW => ?_)⟩
        · obtain ⟨kv, _, _, xk, _⟩ := hW
          exact (xcD_mv (mg := mg) g2 xk).tk _ _ _ hg17
        · obtain ⟨rfl, hx⟩ := hY
          obtain ⟨kv, z10, z12, xk, eD, hh3, lkv, rfl⟩ := hW
          have tkk := (xcD_mv (mg := mg) g2 xk).tk
          obtain ⟨c2, rr2, y2, rfl, gy2, my2, hc2, _⟩ := dpAll_hand (dpAll_tk tkk _ _ (noL_hands hs) dg17) hx
          obtain ⟨x2, rs2⟩ := y2
          have gx : nm[k]? = some x2 := by rw [← hnm, List.getElem?_map, gy2]; rfl
          have mx2 : x2 ∈ m.hands.map Prod.fst := by rw [e3']; exact List.mem_of_getElem? gx
          have nx := nd_take ndn gx
          have nd3 : ((whisperM m (nm.take k) r).hands.map Prod.fst).Nodup := by rw [whisperM_names]; exact ndm
          have mx3 : x2 ∈ (whisperM m (nm.take k) r).hands.map Prod.fst := by rw [whisperM_names]; exact mx2
          obtain ⟨ro, er, wr, hr1, hr2⟩ := hh3.get nd3 mx3
          have lwr := rows_len hr2
          have lsel : (selR [x2] (whisperM m (nm.take k) r).hands).length ≤ 901 := by
            obtain ⟨h0', mh, eh⟩ := List.mem_map.mp mx3
            rw [← eh, sel_one nd3 mh]
            obtain ⟨h1', mh1, e1'⟩ := List.mem_map.mp mh
            have := M900.lh h1' mh1
            rw [← e1']
            show (if h1'.1 ∈ nm.take k then (h1'.1, h1'.2 ++ [r]) else h1').2.length ≤ 901
            split
            · show (h1'.2 ++ [r]).length ≤ 901
              rw [List.length_append]
              simp only [List.length_cons, List.length_nil]
              omega
            · omega
          have el := xk _ _ g1 (Ne.symm neD2)
          refine ⟨c2, _, rfl, hc2, rfl, _, _, rfl, _, _, rfl, rfl, ?_⟩
          refine ⟨.ref l, rfl, l, .ref D2, rfl, .inl ⟨_, kS "heard", .inl el, rfl, rfl⟩, .str x2, rfl, D2, .ref ro, rfl, .inl ⟨_, kS x2, .inl eD, rfl, er.symm⟩, .ref zr', rfl, sz1000 (by decide : (1 : Nat) ≤ 1000), fun z nz => ?_⟩
          generalize h5 : upd _ z _ = H5
          obtain ⟨s5, e5⟩ := new_of h5 nz
          refine ⟨ro, z, _, _, rfl, rfl, Same.tup s5 hr1, .inl (.inl e5), sz1000 (by simp only [List.length_cons, List.length_nil]; omega), fun z6 H6 s6 h6 => ?_⟩
          have s56 := s5.trans s6
          have eD6 := s56 _ _ eD
          refine ⟨.ref l, rfl, l, .ref D2, rfl, .inl ⟨_, kS "heard", .inl (s56 _ _ el), rfl, rfl⟩, .str x2, rfl, D2, _, rfl, DPut.k (k := kS x2) eD6 (small1000 (by have := M.many; omega)), ?_⟩
          have tk := tk_dK (u := .dK (putK kv (kS x2) (.ref z6))) eD6
          have rows6 : RowsAt K H6 z6 (selR [x2] (whisperM m (nm.take k) r).hands ++ [r]) := ⟨_, h6, by
            rw [List.map_append]
            exact dpAll_append (dpAll_same s56 _ _ hr2) (.cons (row_dp (Same.tup s56 (tkk _ _ _ hr17))) .nil)⟩
          refine ⟨putK kv (kS x2) (.ref z6), _, _, xk.trans ((Xc.of s56).trans xc_upd), upd_same, ?_, ?_, rfl⟩
          · have := HeardAt.put (x := x2) (r' := z6) (hh3.same s56) nd3 mx3 rows6
            rw [told_step ndm nx mx2] at this
            rw [List.take_add_one, gx]
            exact HeardAt.tk tk this
          · unfold putK
            rw [if_pos (by rw [valV_any, er]; rfl), List.length_map]
            exact lkv
        obtain ⟨kv, z10, z12, xk, eD, hh3, lkv, rfl⟩ := hW
        have tkk := (xcD_mv (mg := mg) g2 xk).tk
        have el : Ha l = some (.dK [(kS "p", .int m.p), (kS "n", .int (m.n : Int)), (kS "heard", .ref D2), (kS "open", .ref t2')]) := xk _ _ g1 (Ne.symm neD2)
        obtain ⟨wt, ht1, ht2⟩ := htt2.tk tkk
        have lwt := rows_len ht2
        have lc := M900.lc
        refine ⟨.ref l, rfl, l, .ref t2', rfl, .inl ⟨_, kS "open", .inl el, rfl, rfl⟩, .ref zr', rfl, sz1000 (by decide : (1 : Nat) ≤ 1000), fun z nz => ?_⟩
        generalize h5 : upd _ z _ = H5
        obtain ⟨s5, e5⟩ := new_of h5 nz
        refine ⟨t2', z, _, _, rfl, rfl, Same.tup s5 ht1, .inl (.inl e5), sz1000 (by simp only [List.length_cons, List.length_nil]; omega), fun z6 H6 s6 h6 => ?_⟩
        have s56 := s5.trans s6
        have el6 := s56 _ _ el
        refine ⟨.ref l, rfl, l, _, rfl, DPut.k (k := kS "open") el6 (small1000 (Nat.le_of_ble_eq_true rfl)), ?_⟩
        have tk6 := tk_dK (u := .dK (putK [(kS "p", .int m.p), (kS "n", .int (m.n : Int)), (kS "heard", .ref D2), (kS "open", .ref t2')] (kS "open") (.ref z6))) el6
        have xl : Xc l H6 (upd H6 l (.dK (putK [(kS "p", .int m.p), (kS "n", .int (m.n : Int)), (kS "heard", .ref D2), (kS "open", .ref t2')] (kS "open") (.ref z6)))) := xc_upd
        have M' : MomOk (8 + i + 1) (callM m r) := callM_ok M okr
        have Ip := I7.push (d := .call x r) M' rfl rfl ((callM_names m r).trans e3') (fun x' r' e => by cases e; exact okr)
        refine ⟨q.push (callM m r) (.call x r), callM m r, _, _, _, _, _, _, _, deck_xcD ((deck_xcD D17 g2 xk).same s56) el6 xl, by omega, tk6 _ _ _ (Same.tup s56 (tkk _ _ _ hg17)), dpAll_tk tk6 _ _ (noL_hands hs) (dpAll_same s56 _ _ (dpAll_tk tkk _ _ (noL_hands hs) dg17)), book_xcD ((book_xcD B17 g2 xk).same s56) el6 xl, Ip, push_last _ _ _, ⟨D2, z6, kv, ?_, ?_, ?_, ?_, neD2⟩, rfl⟩
        · rw [upd_same]
          rfl
        · rw [upd_ne neD2]
          exact s56 _ _ eD
        · rw [List.take_of_length_le (by omega), ← e3', whisper_all] at hh3
          exact HeardAt.tk tk6 (hh3.same s56)
        · refine ⟨_, tk6 _ _ _ h6, ?_⟩
          show DpAll K _ _ ((m.called ++ [r]).map rowD)
          rw [List.map_append]
          exact dpAll_tk tk6 _ _ (by rw [← List.map_append]; exact noL_rows _) (dpAll_append (dpAll_same s56 _ _ ht2) (.cons (row_dp (Same.tup s56 (tkk _ _ _ hr17))) .nil))
      · obtain ⟨q', m', tf, z9, z10, z11, z12, z13, z14, Df, htf, hgf, dgf, Bf, If, gmf, mlf, rfl⟩ := hN
        obtain ⟨m'', gm'', M', a1, a2, a3⟩ := If.last
        cases gmf.symm.trans gm''
        have h5' : m'.hands.length ≤ 5 := by
          have := congrArg List.length a3
          rw [List.length_map] at this
          omega
        refine ⟨.ref b, rfl, .ref l, rfl, b, l, q', m', rfl, Bf, If.len, gmf, M'.mono (by omega), fun ns => Nat.le_trans (heard_len_le M' h5' ns) (by omega), mlf, fun Hz sz => ⟨true, rfl, iteF ?_⟩⟩
        exact ⟨q', tf, m', _, _, _, _, _, _, _, Df.same sz, by omega, Same.tup sz hgf, dpAll_same sz _ _ dgf, Bf.same sz, If, gmf, mlf.same sz, rfl⟩
end
end OC
set_option Elab.async false
set_option linter.all false
set_option maxRecDepth 100000
namespace OC
open PySem PySem.Spec PyProof.Rows L2
/-! ### the end -/
set_option maxHeartbeats 8000000 in
theorem all_mk {l : PySem.W.OpenLaw} {w : World} {K : PySem.W.Frag} {h : Heap} {mg : Str → Option Value} {fa : Addr} (X : K.In h) (G : h.Ns mainGlobals mg) (hfa : mg "law" = some (.ref fa))
    {LMoment : Addr} (qaMoment : PySem.W.nsIn K mainGlobals "Moment" = some (some (.ref LMoment))) (qpMoment : PySem.W.plainGet K LMoment Str.empty = true) (qhMoment : PySem.W.hasDictIn K LMoment = true) (qoMoment : PySem.W.plainOver K LMoment = true) (qsMoment : PySem.W.findIn K (.ref LMoment) "__setattr__" = some (some (.builtin "object.__setattr__"))) (qmMoment : PySem.W.makesIn K LMoment = true) (qkMoment : PySem.W.keepIn K (.ref LMoment) = true)
    (qnMoment_p : PySem.W.findIn K (.ref LMoment) "p" = some none)
    (qnMoment_n : PySem.W.findIn K (.ref LMoment) "n" = some none)
    (qnMoment_called : PySem.W.findIn K (.ref LMoment) "called" = some none)
    (qnMoment_hands : PySem.W.findIn K (.ref LMoment) "hands" = some none)
    {LBook : Addr} (qaBook : PySem.W.nsIn K mainGlobals "Book" = some (some (.ref LBook))) (qpBook : PySem.W.plainGet K LBook Str.empty = true) (qhBook : PySem.W.hasDictIn K LBook = true) (qoBook : PySem.W.plainOver K LBook = true) (qsBook : PySem.W.findIn K (.ref LBook) "__setattr__" = some (some (.builtin "object.__setattr__"))) (qmBook : PySem.W.makesIn K LBook = true) (qkBook : PySem.W.keepIn K (.ref LBook) = true)
    (qnBook_made : PySem.W.findIn K (.ref LBook) "made" = some none)
    (qnBook_moments : PySem.W.findIn K (.ref LBook) "moments" = some none)
    (qnBook_done : PySem.W.findIn K (.ref LBook) "done" = some none)
    (qnBook_trials : PySem.W.findIn K (.ref LBook) "trials" = some none)
    (qnBook_amid : PySem.W.findIn K (.ref LBook) "amid" = some none)
    {tLETTERS : Tok} (qcLETTERS : PySem.W.nsIn K mainGlobals "LETTERS" = some (some (.str "abcdefghijklmnopqrstuvwxyz" tLETTERS)))
    {tDEEDS : Tok} (qcDEEDS : PySem.W.nsIn K mainGlobals "DEEDS" = some (some (.int 60 tDEEDS)))
    {f0 : Addr} {od0 an0 : Option Addr} {sl0 : Array (Option Value)} {oc0 kV0 dc0 pm0 cd0 ct0 : Value}
    (a0 : PySem.W.nsIn K mainGlobals "is_name" = some (some (.ref f0))) (l0 : K.lookup f0 = some ⟨oc0, od0, .func (PySem.W.fnOf "is_name" "is_name" (defArgs s_is_name) (defBody s_is_name) (defScope s_is_name) .none kV0 dc0 pm0 an0 cd0 ct0), sl0⟩) (c0 : PySem.W.codeIn K cd0 "is_name" = true) (k0 : PySem.W.keepIn K (.ref f0) = true)
    {f1 : Addr} {od1 an1 : Option Addr} {sl1 : Array (Option Value)} {oc1 kV1 dc1 pm1 cd1 ct1 : Value}
    (a1 : PySem.W.nsIn K mainGlobals "is_rising" = some (some (.ref f1))) (l1 : K.lookup f1 = some ⟨oc1, od1, .func (PySem.W.fnOf "is_rising" "is_rising" (defArgs s_is_rising) (defBody s_is_rising) (defScope s_is_rising) .none kV1 dc1 pm1 an1 cd1 ct1), sl1⟩) (c1 : PySem.W.codeIn K cd1 "is_rising" = true) (k1 : PySem.W.keepIn K (.ref f1) = true)
    {f2 : Addr} {od2 an2 : Option Addr} {sl2 : Array (Option Value)} {oc2 kV2 dc2 pm2 cd2 ct2 : Value}
    (a2 : PySem.W.nsIn K mainGlobals "are_names" = some (some (.ref f2))) (l2 : K.lookup f2 = some ⟨oc2, od2, .func (PySem.W.fnOf "are_names" "are_names" (defArgs s_are_names) (defBody s_are_names) (defScope s_are_names) .none kV2 dc2 pm2 an2 cd2 ct2), sl2⟩) (c2 : PySem.W.codeIn K cd2 "are_names" = true) (k2 : PySem.W.keepIn K (.ref f2) = true)
    {f3 : Addr} {od3 an3 : Option Addr} {sl3 : Array (Option Value)} {oc3 kV3 dc3 pm3 cd3 ct3 : Value}
    (a3 : PySem.W.nsIn K mainGlobals "is_number" = some (some (.ref f3))) (l3 : K.lookup f3 = some ⟨oc3, od3, .func (PySem.W.fnOf "is_number" "is_number" (defArgs s_is_number) (defBody s_is_number) (defScope s_is_number) .none kV3 dc3 pm3 an3 cd3 ct3), sl3⟩) (c3 : PySem.W.codeIn K cd3 "is_number" = true) (k3 : PySem.W.keepIn K (.ref f3) = true)
    {f4 : Addr} {od4 an4 : Option Addr} {sl4 : Array (Option Value)} {oc4 kV4 dc4 pm4 cd4 ct4 : Value}
    (a4 : PySem.W.nsIn K mainGlobals "is_rest" = some (some (.ref f4))) (l4 : K.lookup f4 = some ⟨oc4, od4, .func (PySem.W.fnOf "is_rest" "is_rest" (defArgs s_is_rest) (defBody s_is_rest) (defScope s_is_rest) .none kV4 dc4 pm4 an4 cd4 ct4), sl4⟩) (c4 : PySem.W.codeIn K cd4 "is_rest" = true) (k4 : PySem.W.keepIn K (.ref f4) = true)
    {f5 : Addr} {od5 an5 : Option Addr} {sl5 : Array (Option Value)} {oc5 kV5 dc5 pm5 cd5 ct5 : Value}
    (a5 : PySem.W.nsIn K mainGlobals "contrary" = some (some (.ref f5))) (l5 : K.lookup f5 = some ⟨oc5, od5, .func (PySem.W.fnOf "contrary" "contrary" (defArgs s_contrary) (defBody s_contrary) (defScope s_contrary) .none kV5 dc5 pm5 an5 cd5 ct5), sl5⟩) (c5 : PySem.W.codeIn K cd5 "contrary" = true) (k5 : PySem.W.keepIn K (.ref f5) = true)
    {f6 : Addr} {od6 an6 : Option Addr} {sl6 : Array (Option Value)} {oc6 kV6 dc6 pm6 cd6 ct6 : Value}
    (a6 : PySem.W.nsIn K mainGlobals "is_row" = some (some (.ref f6))) (l6 : K.lookup f6 = some ⟨oc6, od6, .func (PySem.W.fnOf "is_row" "is_row" (defArgs s_is_row) (defBody s_is_row) (defScope s_is_row) .none kV6 dc6 pm6 an6 cd6 ct6), sl6⟩) (c6 : PySem.W.codeIn K cd6 "is_row" = true) (k6 : PySem.W.keepIn K (.ref f6) = true)
    {f7 : Addr} {od7 an7 : Option Addr} {sl7 : Array (Option Value)} {oc7 kV7 dc7 pm7 cd7 ct7 : Value}
    (a7 : PySem.W.nsIn K mainGlobals "added" = some (some (.ref f7))) (l7 : K.lookup f7 = some ⟨oc7, od7, .func (PySem.W.fnOf "added" "added" (defArgs s_added) (defBody s_added) (defScope s_added) .none kV7 dc7 pm7 an7 cd7 ct7), sl7⟩) (c7 : PySem.W.codeIn K cd7 "added" = true) (k7 : PySem.W.keepIn K (.ref f7) = true)
    {f8 : Addr} {od8 an8 : Option Addr} {sl8 : Array (Option Value)} {oc8 kV8 dc8 pm8 cd8 ct8 : Value}
    (a8 : PySem.W.nsIn K mainGlobals "times" = some (some (.ref f8))) (l8 : K.lookup f8 = some ⟨oc8, od8, .func (PySem.W.fnOf "times" "times" (defArgs s_times) (defBody s_times) (defScope s_times) .none kV8 dc8 pm8 an8 cd8 ct8), sl8⟩) (c8 : PySem.W.codeIn K cd8 "times" = true) (k8 : PySem.W.keepIn K (.ref f8) = true)
    {f9 : Addr} {od9 an9 : Option Addr} {sl9 : Array (Option Value)} {oc9 kV9 dc9 pm9 cd9 ct9 : Value}
    (a9 : PySem.W.nsIn K mainGlobals "check_hand" = some (some (.ref f9))) (l9 : K.lookup f9 = some ⟨oc9, od9, .func (PySem.W.fnOf "check_hand" "check_hand" (defArgs s_check_hand) (defBody s_check_hand) (defScope s_check_hand) .none kV9 dc9 pm9 an9 cd9 ct9), sl9⟩) (c9 : PySem.W.codeIn K cd9 "check_hand" = true) (k9 : PySem.W.keepIn K (.ref f9) = true)
    {f10 : Addr} {od10 an10 : Option Addr} {sl10 : Array (Option Value)} {oc10 kV10 dc10 pm10 cd10 ct10 : Value}
    (a10 : PySem.W.nsIn K mainGlobals "check_hands" = some (some (.ref f10))) (l10 : K.lookup f10 = some ⟨oc10, od10, .func (PySem.W.fnOf "check_hands" "check_hands" (defArgs s_check_hands) (defBody s_check_hands) (defScope s_check_hands) .none kV10 dc10 pm10 an10 cd10 ct10), sl10⟩) (c10 : PySem.W.codeIn K cd10 "check_hands" = true) (k10 : PySem.W.keepIn K (.ref f10) = true)
    {f11 : Addr} {od11 an11 : Option Addr} {sl11 : Array (Option Value)} {oc11 kV11 dc11 pm11 cd11 ct11 : Value}
    (a11 : PySem.W.nsIn K mainGlobals "check_row" = some (some (.ref f11))) (l11 : K.lookup f11 = some ⟨oc11, od11, .func (PySem.W.fnOf "check_row" "check_row" (defArgs s_check_row) (defBody s_check_row) (defScope s_check_row) .none kV11 dc11 pm11 an11 cd11 ct11), sl11⟩) (c11 : PySem.W.codeIn K cd11 "check_row" = true) (k11 : PySem.W.keepIn K (.ref f11) = true)
    {f12 : Addr} {od12 an12 : Option Addr} {sl12 : Array (Option Value)} {oc12 kV12 dc12 pm12 cd12 ct12 : Value}
    (a12 : PySem.W.nsIn K mainGlobals "led" = some (some (.ref f12))) (l12 : K.lookup f12 = some ⟨oc12, od12, .func (PySem.W.fnOf "led" "led" (defArgs s_led) (defBody s_led) (defScope s_led) .none kV12 dc12 pm12 an12 cd12 ct12), sl12⟩) (c12 : PySem.W.codeIn K cd12 "led" = true) (k12 : PySem.W.keepIn K (.ref f12) = true)
    {f13 : Addr} {od13 an13 : Option Addr} {sl13 : Array (Option Value)} {oc13 kV13 dc13 pm13 cd13 ct13 : Value}
    (a13 : PySem.W.nsIn K mainGlobals "is_noughts" = some (some (.ref f13))) (l13 : K.lookup f13 = some ⟨oc13, od13, .func (PySem.W.fnOf "is_noughts" "is_noughts" (defArgs s_is_noughts) (defBody s_is_noughts) (defScope s_is_noughts) .none kV13 dc13 pm13 an13 cd13 ct13), sl13⟩) (c13 : PySem.W.codeIn K cd13 "is_noughts" = true) (k13 : PySem.W.keepIn K (.ref f13) = true)
    {f14 : Addr} {od14 an14 : Option Addr} {sl14 : Array (Option Value)} {oc14 kV14 dc14 pm14 cd14 ct14 : Value}
    (a14 : PySem.W.nsIn K mainGlobals "first_place" = some (some (.ref f14))) (l14 : K.lookup f14 = some ⟨oc14, od14, .func (PySem.W.fnOf "first_place" "first_place" (defArgs s_first_place) (defBody s_first_place) (defScope s_first_place) .none kV14 dc14 pm14 an14 cd14 ct14), sl14⟩) (c14 : PySem.W.codeIn K cd14 "first_place" = true) (k14 : PySem.W.keepIn K (.ref f14) = true)
    {f15 : Addr} {od15 an15 : Option Addr} {sl15 : Array (Option Value)} {oc15 kV15 dc15 pm15 cd15 ct15 : Value}
    (a15 : PySem.W.nsIn K mainGlobals "cleared" = some (some (.ref f15))) (l15 : K.lookup f15 = some ⟨oc15, od15, .func (PySem.W.fnOf "cleared" "cleared" (defArgs s_cleared) (defBody s_cleared) (defScope s_cleared) .none kV15 dc15 pm15 an15 cd15 ct15), sl15⟩) (c15 : PySem.W.codeIn K cd15 "cleared" = true) (k15 : PySem.W.keepIn K (.ref f15) = true)
    {f16 : Addr} {od16 an16 : Option Addr} {sl16 : Array (Option Value)} {oc16 kV16 dc16 pm16 cd16 ct16 : Value}
    (a16 : PySem.W.nsIn K mainGlobals "left_of" = some (some (.ref f16))) (l16 : K.lookup f16 = some ⟨oc16, od16, .func (PySem.W.fnOf "left_of" "left_of" (defArgs s_left_of) (defBody s_left_of) (defScope s_left_of) .none kV16 dc16 pm16 an16 cd16 ct16), sl16⟩) (c16 : PySem.W.codeIn K cd16 "left_of" = true) (k16 : PySem.W.keepIn K (.ref f16) = true)
    {f17 : Addr} {od17 an17 : Option Addr} {sl17 : Array (Option Value)} {oc17 kV17 dc17 pm17 cd17 ct17 : Value}
    (a17 : PySem.W.nsIn K mainGlobals "widened" = some (some (.ref f17))) (l17 : K.lookup f17 = some ⟨oc17, od17, .func (PySem.W.fnOf "widened" "widened" (defArgs s_widened) (defBody s_widened) (defScope s_widened) .none kV17 dc17 pm17 an17 cd17 ct17), sl17⟩) (c17 : PySem.W.codeIn K cd17 "widened" = true) (k17 : PySem.W.keepIn K (.ref f17) = true)
    {f18 : Addr} {od18 an18 : Option Addr} {sl18 : Array (Option Value)} {oc18 kV18 dc18 pm18 cd18 ct18 : Value}
    (a18 : PySem.W.nsIn K mainGlobals "room_of" = some (some (.ref f18))) (l18 : K.lookup f18 = some ⟨oc18, od18, .func (PySem.W.fnOf "room_of" "room_of" (defArgs s_room_of) (defBody s_room_of) (defScope s_room_of) .none kV18 dc18 pm18 an18 cd18 ct18), sl18⟩) (c18 : PySem.W.codeIn K cd18 "room_of" = true) (k18 : PySem.W.keepIn K (.ref f18) = true)
    {f19 : Addr} {od19 an19 : Option Addr} {sl19 : Array (Option Value)} {oc19 kV19 dc19 pm19 cd19 ct19 : Value}
    (a19 : PySem.W.nsIn K mainGlobals "within" = some (some (.ref f19))) (l19 : K.lookup f19 = some ⟨oc19, od19, .func (PySem.W.fnOf "within" "within" (defArgs s_within) (defBody s_within) (defScope s_within) .none kV19 dc19 pm19 an19 cd19 ct19), sl19⟩) (c19 : PySem.W.codeIn K cd19 "within" = true) (k19 : PySem.W.keepIn K (.ref f19) = true)
    {f20 : Addr} {od20 an20 : Option Addr} {sl20 : Array (Option Value)} {oc20 kV20 dc20 pm20 cd20 ct20 : Value}
    (a20 : PySem.W.nsIn K mainGlobals "needed" = some (some (.ref f20))) (l20 : K.lookup f20 = some ⟨oc20, od20, .func (PySem.W.fnOf "needed" "needed" (defArgs s_needed) (defBody s_needed) (defScope s_needed) .none kV20 dc20 pm20 an20 cd20 ct20), sl20⟩) (c20 : PySem.W.codeIn K cd20 "needed" = true) (k20 : PySem.W.keepIn K (.ref f20) = true)
    {f21 : Addr} {od21 an21 : Option Addr} {sl21 : Array (Option Value)} {oc21 kV21 dc21 pm21 cd21 ct21 : Value}
    (a21 : PySem.W.nsIn K mainGlobals "names_at" = some (some (.ref f21))) (l21 : K.lookup f21 = some ⟨oc21, od21, .func (PySem.W.fnOf "names_at" "names_at" (defArgs s_names_at) (defBody s_names_at) (defScope s_names_at) .none kV21 dc21 pm21 an21 cd21 ct21), sl21⟩) (c21 : PySem.W.codeIn K cd21 "names_at" = true) (k21 : PySem.W.keepIn K (.ref f21) = true)
    {f22 : Addr} {od22 an22 : Option Addr} {sl22 : Array (Option Value)} {oc22 kV22 dc22 pm22 cd22 ct22 : Value}
    (a22 : PySem.W.nsIn K mainGlobals "heard_at" = some (some (.ref f22))) (l22 : K.lookup f22 = some ⟨oc22, od22, .func (PySem.W.fnOf "heard_at" "heard_at" (defArgs s_heard_at) (defBody s_heard_at) (defScope s_heard_at) .none kV22 dc22 pm22 an22 cd22 ct22), sl22⟩) (c22 : PySem.W.codeIn K cd22 "heard_at" = true) (k22 : PySem.W.keepIn K (.ref f22) = true)
    {f23 : Addr} {od23 an23 : Option Addr} {sl23 : Array (Option Value)} {oc23 kV23 dc23 pm23 cd23 ct23 : Value}
    (a23 : PySem.W.nsIn K mainGlobals "known_at" = some (some (.ref f23))) (l23 : K.lookup f23 = some ⟨oc23, od23, .func (PySem.W.fnOf "known_at" "known_at" (defArgs s_known_at) (defBody s_known_at) (defScope s_known_at) .none kV23 dc23 pm23 an23 cd23 ct23), sl23⟩) (c23 : PySem.W.codeIn K cd23 "known_at" = true) (k23 : PySem.W.keepIn K (.ref f23) = true)
    {f24 : Addr} {od24 an24 : Option Addr} {sl24 : Array (Option Value)} {oc24 kV24 dc24 pm24 cd24 ct24 : Value}
    (a24 : PySem.W.nsIn K mainGlobals "are_first_rows" = some (some (.ref f24))) (l24 : K.lookup f24 = some ⟨oc24, od24, .func (PySem.W.fnOf "are_first_rows" "are_first_rows" (defArgs s_are_first_rows) (defBody s_are_first_rows) (defScope s_are_first_rows) .none kV24 dc24 pm24 an24 cd24 ct24), sl24⟩) (c24 : PySem.W.codeIn K cd24 "are_first_rows" = true) (k24 : PySem.W.keepIn K (.ref f24) = true)
    {f25 : Addr} {od25 an25 : Option Addr} {sl25 : Array (Option Value)} {oc25 kV25 dc25 pm25 cd25 ct25 : Value}
    (a25 : PySem.W.nsIn K mainGlobals "after_call" = some (some (.ref f25))) (l25 : K.lookup f25 = some ⟨oc25, od25, .func (PySem.W.fnOf "after_call" "after_call" (defArgs s_after_call) (defBody s_after_call) (defScope s_after_call) .none kV25 dc25 pm25 an25 cd25 ct25), sl25⟩) (c25 : PySem.W.codeIn K cd25 "after_call" = true) (k25 : PySem.W.keepIn K (.ref f25) = true)
    {f26 : Addr} {od26 an26 : Option Addr} {sl26 : Array (Option Value)} {oc26 kV26 dc26 pm26 cd26 ct26 : Value}
    (a26 : PySem.W.nsIn K mainGlobals "after_whisper" = some (some (.ref f26))) (l26 : K.lookup f26 = some ⟨oc26, od26, .func (PySem.W.fnOf "after_whisper" "after_whisper" (defArgs s_after_whisper) (defBody s_after_whisper) (defScope s_after_whisper) .none kV26 dc26 pm26 an26 cd26 ct26), sl26⟩) (c26 : PySem.W.codeIn K cd26 "after_whisper" = true) (k26 : PySem.W.keepIn K (.ref f26) = true)
    {f27 : Addr} {od27 an27 : Option Addr} {sl27 : Array (Option Value)} {oc27 kV27 dc27 pm27 cd27 ct27 : Value}
    (a27 : PySem.W.nsIn K mainGlobals "after_meet" = some (some (.ref f27))) (l27 : K.lookup f27 = some ⟨oc27, od27, .func (PySem.W.fnOf "after_meet" "after_meet" (defArgs s_after_meet) (defBody s_after_meet) (defScope s_after_meet) .none kV27 dc27 pm27 an27 cd27 ct27), sl27⟩) (c27 : PySem.W.codeIn K cd27 "after_meet" = true) (k27 : PySem.W.keepIn K (.ref f27) = true)
    {f28 : Addr} {od28 an28 : Option Addr} {sl28 : Array (Option Value)} {oc28 kV28 dc28 pm28 cd28 ct28 : Value}
    (a28 : PySem.W.nsIn K mainGlobals "news" = some (some (.ref f28))) (l28 : K.lookup f28 = some ⟨oc28, od28, .func (PySem.W.fnOf "news" "news" (defArgs s_news) (defBody s_news) (defScope s_news) .none kV28 dc28 pm28 an28 cd28 ct28), sl28⟩) (c28 : PySem.W.codeIn K cd28 "news" = true) (k28 : PySem.W.keepIn K (.ref f28) = true)
    {f29 : Addr} {od29 an29 : Option Addr} {sl29 : Array (Option Value)} {oc29 kV29 dc29 pm29 cd29 ct29 : Value}
    (a29 : PySem.W.nsIn K mainGlobals "after_hide" = some (some (.ref f29))) (l29 : K.lookup f29 = some ⟨oc29, od29, .func (PySem.W.fnOf "after_hide" "after_hide" (defArgs s_after_hide) (defBody s_after_hide) (defScope s_after_hide) .none kV29 dc29 pm29 an29 cd29 ct29), sl29⟩) (c29 : PySem.W.codeIn K cd29 "after_hide" = true) (k29 : PySem.W.keepIn K (.ref f29) = true)
    {f30 : Addr} {od30 an30 : Option Addr} {sl30 : Array (Option Value)} {oc30 kV30 dc30 pm30 cd30 ct30 : Value}
    (a30 : PySem.W.nsIn K mainGlobals "longer" = some (some (.ref f30))) (l30 : K.lookup f30 = some ⟨oc30, od30, .func (PySem.W.fnOf "longer" "longer" (defArgs s_longer) (defBody s_longer) (defScope s_longer) .none kV30 dc30 pm30 an30 cd30 ct30), sl30⟩) (c30 : PySem.W.codeIn K cd30 "longer" = true) (k30 : PySem.W.keepIn K (.ref f30) = true)
    {f31 : Addr} {od31 an31 : Option Addr} {sl31 : Array (Option Value)} {oc31 kV31 dc31 pm31 cd31 ct31 : Value}
    (a31 : PySem.W.nsIn K mainGlobals "after_change" = some (some (.ref f31))) (l31 : K.lookup f31 = some ⟨oc31, od31, .func (PySem.W.fnOf "after_change" "after_change" (defArgs s_after_change) (defBody s_after_change) (defScope s_after_change) .none kV31 dc31 pm31 an31 cd31 ct31), sl31⟩) (c31 : PySem.W.codeIn K cd31 "after_change" = true) (k31 : PySem.W.keepIn K (.ref f31) = true)
    {f32 : Addr} {od32 an32 : Option Addr} {sl32 : Array (Option Value)} {oc32 kV32 dc32 pm32 cd32 ct32 : Value}
    (a32 : PySem.W.nsIn K mainGlobals "all_led" = some (some (.ref f32))) (l32 : K.lookup f32 = some ⟨oc32, od32, .func (PySem.W.fnOf "all_led" "all_led" (defArgs s_all_led) (defBody s_all_led) (defScope s_all_led) .none kV32 dc32 pm32 an32 cd32 ct32), sl32⟩) (c32 : PySem.W.codeIn K cd32 "all_led" = true) (k32 : PySem.W.keepIn K (.ref f32) = true)
    {f33 : Addr} {od33 an33 : Option Addr} {sl33 : Array (Option Value)} {oc33 kV33 dc33 pm33 cd33 ct33 : Value}
    (a33 : PySem.W.nsIn K mainGlobals "after_come" = some (some (.ref f33))) (l33 : K.lookup f33 = some ⟨oc33, od33, .func (PySem.W.fnOf "after_come" "after_come" (defArgs s_after_come) (defBody s_after_come) (defScope s_after_come) .none kV33 dc33 pm33 an33 cd33 ct33), sl33⟩) (c33 : PySem.W.codeIn K cd33 "after_come" = true) (k33 : PySem.W.keepIn K (.ref f33) = true)
    {f34 : Addr} {od34 an34 : Option Addr} {sl34 : Array (Option Value)} {oc34 kV34 dc34 pm34 cd34 ct34 : Value}
    (a34 : PySem.W.nsIn K mainGlobals "after_go" = some (some (.ref f34))) (l34 : K.lookup f34 = some ⟨oc34, od34, .func (PySem.W.fnOf "after_go" "after_go" (defArgs s_after_go) (defBody s_after_go) (defScope s_after_go) .none kV34 dc34 pm34 an34 cd34 ct34), sl34⟩) (c34 : PySem.W.codeIn K cd34 "after_go" = true) (k34 : PySem.W.keepIn K (.ref f34) = true)
    {f35 : Addr} {od35 an35 : Option Addr} {sl35 : Array (Option Value)} {oc35 kV35 dc35 pm35 cd35 ct35 : Value}
    (a35 : PySem.W.nsIn K mainGlobals "after" = some (some (.ref f35))) (l35 : K.lookup f35 = some ⟨oc35, od35, .func (PySem.W.fnOf "after" "after" (defArgs s_after) (defBody s_after) (defScope s_after) .none kV35 dc35 pm35 an35 cd35 ct35), sl35⟩) (c35 : PySem.W.codeIn K cd35 "after" = true) (k35 : PySem.W.keepIn K (.ref f35) = true)
    {f36 : Addr} {od36 an36 : Option Addr} {sl36 : Array (Option Value)} {oc36 kV36 dc36 pm36 cd36 ct36 : Value}
    (a36 : PySem.W.nsIn K mainGlobals "_law_deck" = some (some (.ref f36))) (l36 : K.lookup f36 = some ⟨oc36, od36, .func (PySem.W.fnOf "_law_deck" "_law_deck" (defArgs s__law_deck) (defBody s__law_deck) (defScope s__law_deck) .none kV36 dc36 pm36 an36 cd36 ct36), sl36⟩) (c36 : PySem.W.codeIn K cd36 "_law_deck" = true) (k36 : PySem.W.keepIn K (.ref f36) = true)
    {f37 : Addr} {od37 an37 : Option Addr} {sl37 : Array (Option Value)} {oc37 kV37 dc37 pm37 cd37 ct37 : Value}
    (a37 : PySem.W.nsIn K mainGlobals "_law_draw" = some (some (.ref f37))) (l37 : K.lookup f37 = some ⟨oc37, od37, .func (PySem.W.fnOf "_law_draw" "_law_draw" (defArgs s__law_draw) (defBody s__law_draw) (defScope s__law_draw) .none kV37 dc37 pm37 an37 cd37 ct37), sl37⟩) (c37 : PySem.W.codeIn K cd37 "_law_draw" = true) (k37 : PySem.W.keepIn K (.ref f37) = true)
    {f38 : Addr} {od38 an38 : Option Addr} {sl38 : Array (Option Value)} {oc38 kV38 dc38 pm38 cd38 ct38 : Value}
    (a38 : PySem.W.nsIn K mainGlobals "_law_names" = some (some (.ref f38))) (l38 : K.lookup f38 = some ⟨oc38, od38, .func (PySem.W.fnOf "_law_names" "_law_names" (defArgs s__law_names) (defBody s__law_names) (defScope s__law_names) .none kV38 dc38 pm38 an38 cd38 ct38), sl38⟩) (c38 : PySem.W.codeIn K cd38 "_law_names" = true) (k38 : PySem.W.keepIn K (.ref f38) = true)
    {f39 : Addr} {od39 an39 : Option Addr} {sl39 : Array (Option Value)} {oc39 kV39 dc39 pm39 cd39 ct39 : Value}
    (a39 : PySem.W.nsIn K mainGlobals "_law_row" = some (some (.ref f39))) (l39 : K.lookup f39 = some ⟨oc39, od39, .func (PySem.W.fnOf "_law_row" "_law_row" (defArgs s__law_row) (defBody s__law_row) (defScope s__law_row) .none kV39 dc39 pm39 an39 cd39 ct39), sl39⟩) (c39 : PySem.W.codeIn K cd39 "_law_row" = true) (k39 : PySem.W.keepIn K (.ref f39) = true)
    {f40 : Addr} {od40 an40 : Option Addr} {sl40 : Array (Option Value)} {oc40 kV40 dc40 pm40 cd40 ct40 : Value}
    (a40 : PySem.W.nsIn K mainGlobals "_law_left" = some (some (.ref f40))) (l40 : K.lookup f40 = some ⟨oc40, od40, .func (PySem.W.fnOf "_law_left" "_law_left" (defArgs s__law_left) (defBody s__law_left) (defScope s__law_left) .none kV40 dc40 pm40 an40 cd40 ct40), sl40⟩) (c40 : PySem.W.codeIn K cd40 "_law_left" = true) (k40 : PySem.W.keepIn K (.ref f40) = true)
    {f41 : Addr} {od41 an41 : Option Addr} {sl41 : Array (Option Value)} {oc41 kV41 dc41 pm41 cd41 ct41 : Value}
    (a41 : PySem.W.nsIn K mainGlobals "_law_plain" = some (some (.ref f41))) (l41 : K.lookup f41 = some ⟨oc41, od41, .func (PySem.W.fnOf "_law_plain" "_law_plain" (defArgs s__law_plain) (defBody s__law_plain) (defScope s__law_plain) .none kV41 dc41 pm41 an41 cd41 ct41), sl41⟩) (c41 : PySem.W.codeIn K cd41 "_law_plain" = true) (k41 : PySem.W.keepIn K (.ref f41) = true)
    {f42 : Addr} {od42 an42 : Option Addr} {sl42 : Array (Option Value)} {oc42 kV42 dc42 pm42 cd42 ct42 : Value}
    (a42 : PySem.W.nsIn K mainGlobals "_law_within" = some (some (.ref f42))) (l42 : K.lookup f42 = some ⟨oc42, od42, .func (PySem.W.fnOf "_law_within" "_law_within" (defArgs s__law_within) (defBody s__law_within) (defScope s__law_within) .none kV42 dc42 pm42 an42 cd42 ct42), sl42⟩) (c42 : PySem.W.codeIn K cd42 "_law_within" = true) (k42 : PySem.W.keepIn K (.ref f42) = true)
    {f43 : Addr} {od43 an43 : Option Addr} {sl43 : Array (Option Value)} {oc43 kV43 dc43 pm43 cd43 ct43 : Value}
    (a43 : PySem.W.nsIn K mainGlobals "_law_made_of" = some (some (.ref f43))) (l43 : K.lookup f43 = some ⟨oc43, od43, .func (PySem.W.fnOf "_law_made_of" "_law_made_of" (defArgs s__law_made_of) (defBody s__law_made_of) (defScope s__law_made_of) .none kV43 dc43 pm43 an43 cd43 ct43), sl43⟩) (c43 : PySem.W.codeIn K cd43 "_law_made_of" = true) (k43 : PySem.W.keepIn K (.ref f43) = true)
    {f44 : Addr} {od44 an44 : Option Addr} {sl44 : Array (Option Value)} {oc44 kV44 dc44 pm44 cd44 ct44 : Value}
    (a44 : PySem.W.nsIn K mainGlobals "_law_begun" = some (some (.ref f44))) (l44 : K.lookup f44 = some ⟨oc44, od44, .func (PySem.W.fnOf "_law_begun" "_law_begun" (defArgs s__law_begun) (defBody s__law_begun) (defScope s__law_begun) .none kV44 dc44 pm44 an44 cd44 ct44), sl44⟩) (c44 : PySem.W.codeIn K cd44 "_law_begun" = true) (k44 : PySem.W.keepIn K (.ref f44) = true)
    {f45 : Addr} {od45 an45 : Option Addr} {sl45 : Array (Option Value)} {oc45 kV45 dc45 pm45 cd45 ct45 : Value}
    (a45 : PySem.W.nsIn K mainGlobals "_law_model" = some (some (.ref f45))) (l45 : K.lookup f45 = some ⟨oc45, od45, .func (PySem.W.fnOf "_law_model" "_law_model" (defArgs s__law_model) (defBody s__law_model) (defScope s__law_model) .none kV45 dc45 pm45 an45 cd45 ct45), sl45⟩) (c45 : PySem.W.codeIn K cd45 "_law_model" = true) (k45 : PySem.W.keepIn K (.ref f45) = true)
    {f46 : Addr} {od46 an46 : Option Addr} {sl46 : Array (Option Value)} {oc46 kV46 dc46 pm46 cd46 ct46 : Value}
    (a46 : PySem.W.nsIn K mainGlobals "_law_rows_by" = some (some (.ref f46))) (l46 : K.lookup f46 = some ⟨oc46, od46, .func (PySem.W.fnOf "_law_rows_by" "_law_rows_by" (defArgs s__law_rows_by) (defBody s__law_rows_by) (defScope s__law_rows_by) .none kV46 dc46 pm46 an46 cd46 ct46), sl46⟩) (c46 : PySem.W.codeIn K cd46 "_law_rows_by" = true) (k46 : PySem.W.keepIn K (.ref f46) = true)
    {f47 : Addr} {od47 an47 : Option Addr} {sl47 : Array (Option Value)} {oc47 kV47 dc47 pm47 cd47 ct47 : Value}
    (a47 : PySem.W.nsIn K mainGlobals "_law_room_by" = some (some (.ref f47))) (l47 : K.lookup f47 = some ⟨oc47, od47, .func (PySem.W.fnOf "_law_room_by" "_law_room_by" (defArgs s__law_room_by) (defBody s__law_room_by) (defScope s__law_room_by) .none kV47 dc47 pm47 an47 cd47 ct47), sl47⟩) (c47 : PySem.W.codeIn K cd47 "_law_room_by" = true) (k47 : PySem.W.keepIn K (.ref f47) = true)
    {f48 : Addr} {od48 an48 : Option Addr} {sl48 : Array (Option Value)} {oc48 kV48 dc48 pm48 cd48 ct48 : Value}
    (a48 : PySem.W.nsIn K mainGlobals "_law_called" = some (some (.ref f48))) (l48 : K.lookup f48 = some ⟨oc48, od48, .func (PySem.W.fnOf "_law_called" "_law_called" (defArgs s__law_called) (defBody s__law_called) (defScope s__law_called) .none kV48 dc48 pm48 an48 cd48 ct48), sl48⟩) (c48 : PySem.W.codeIn K cd48 "_law_called" = true) (k48 : PySem.W.keepIn K (.ref f48) = true)
    {f49 : Addr} {od49 an49 : Option Addr} {sl49 : Array (Option Value)} {oc49 kV49 dc49 pm49 cd49 ct49 : Value}
    (a49 : PySem.W.nsIn K mainGlobals "_law_all_right" = some (some (.ref f49))) (l49 : K.lookup f49 = some ⟨oc49, od49, .func (PySem.W.fnOf "_law_all_right" "_law_all_right" (defArgs s__law_all_right) (defBody s__law_all_right) (defScope s__law_all_right) .none kV49 dc49 pm49 an49 cd49 ct49), sl49⟩) (c49 : PySem.W.codeIn K cd49 "_law_all_right" = true) (k49 : PySem.W.keepIn K (.ref f49) = true)
    {f50 : Addr} {od50 an50 : Option Addr} {sl50 : Array (Option Value)} {oc50 kV50 dc50 pm50 cd50 ct50 : Value}
    (a50 : PySem.W.nsIn K mainGlobals "law" = some (some (.ref f50))) (l50 : K.lookup f50 = some ⟨oc50, od50, .func (PySem.W.fnOf "law" "law" (defArgs s_law) (defBody s_law) (defScope s_law) .none kV50 dc50 pm50 an50 cd50 ct50), sl50⟩) (c50 : PySem.W.codeIn K cd50 "law" = true) (k50 : PySem.W.keepIn K (.ref f50) = true)
    {f51 : Addr} {od51 an51 : Option Addr} {sl51 : Array (Option Value)} {oc51 kV51 dc51 pm51 cd51 ct51 : Value}
    (a51 : PySem.W.findIn K (.ref LMoment) "__init__" = some (some (.ref f51))) (i51 : PySem.W.isFn K (.ref f51) = true) (l51 : K.lookup f51 = some ⟨oc51, od51, .func (PySem.W.fnOf "__init__" "Moment.__init__" (defArgs s_Moment___init__) (defBody s_Moment___init__) (defScope s_Moment___init__) .none kV51 dc51 pm51 an51 cd51 ct51), sl51⟩) (c51 : PySem.W.codeIn K cd51 "Moment.__init__" = true) (k51 : PySem.W.keepIn K (.ref f51) = true)
    {f52 : Addr} {od52 an52 : Option Addr} {sl52 : Array (Option Value)} {oc52 kV52 dc52 pm52 cd52 ct52 : Value}
    (a52 : PySem.W.findIn K (.ref LBook) "__init__" = some (some (.ref f52))) (i52 : PySem.W.isFn K (.ref f52) = true) (l52 : K.lookup f52 = some ⟨oc52, od52, .func (PySem.W.fnOf "__init__" "Book.__init__" (defArgs s_Book___init__) (defBody s_Book___init__) (defScope s_Book___init__) .none kV52 dc52 pm52 an52 cd52 ct52), sl52⟩) (c52 : PySem.W.codeIn K cd52 "Book.__init__" = true) (k52 : PySem.W.keepIn K (.ref f52) = true)
    {f53 : Addr} {od53 an53 : Option Addr} {sl53 : Array (Option Value)} {oc53 kV53 dc53 pm53 cd53 ct53 : Value}
    (a53 : PySem.W.findIn K (.ref LBook) "now" = some (some (.ref f53))) (i53 : PySem.W.isFn K (.ref f53) = true) (l53 : K.lookup f53 = some ⟨oc53, od53, .func (PySem.W.fnOf "now" "Book.now" (defArgs s_Book_now) (defBody s_Book_now) (defScope s_Book_now) .none kV53 dc53 pm53 an53 cd53 ct53), sl53⟩) (c53 : PySem.W.codeIn K cd53 "Book.now" = true) (k53 : PySem.W.keepIn K (.ref f53) = true)
    {f54 : Addr} {od54 an54 : Option Addr} {sl54 : Array (Option Value)} {oc54 kV54 dc54 pm54 cd54 ct54 : Value}
    (a54 : PySem.W.findIn K (.ref LBook) "refuse_amid" = some (some (.ref f54))) (i54 : PySem.W.isFn K (.ref f54) = true) (l54 : K.lookup f54 = some ⟨oc54, od54, .func (PySem.W.fnOf "refuse_amid" "Book.refuse_amid" (defArgs s_Book_refuse_amid) (defBody s_Book_refuse_amid) (defScope s_Book_refuse_amid) .none kV54 dc54 pm54 an54 cd54 ct54), sl54⟩) (c54 : PySem.W.codeIn K cd54 "Book.refuse_amid" = true) (k54 : PySem.W.keepIn K (.ref f54) = true)
    {f55 : Addr} {od55 an55 : Option Addr} {sl55 : Array (Option Value)} {oc55 kV55 dc55 pm55 cd55 ct55 : Value}
    (a55 : PySem.W.findIn K (.ref LBook) "perform" = some (some (.ref f55))) (i55 : PySem.W.isFn K (.ref f55) = true) (l55 : K.lookup f55 = some ⟨oc55, od55, .func (PySem.W.fnOf "perform" "Book.perform" (defArgs s_Book_perform) (defBody s_Book_perform) (defScope s_Book_perform) .none kV55 dc55 pm55 an55 cd55 ct55), sl55⟩) (c55 : PySem.W.codeIn K cd55 "Book.perform" = true) (k55 : PySem.W.keepIn K (.ref f55) = true)
    {f56 : Addr} {od56 an56 : Option Addr} {sl56 : Array (Option Value)} {oc56 kV56 dc56 pm56 cd56 ct56 : Value}
    (a56 : PySem.W.findIn K (.ref LBook) "call" = some (some (.ref f56))) (i56 : PySem.W.isFn K (.ref f56) = true) (l56 : K.lookup f56 = some ⟨oc56, od56, .func (PySem.W.fnOf "call" "Book.call" (defArgs s_Book_call) (defBody s_Book_call) (defScope s_Book_call) .none kV56 dc56 pm56 an56 cd56 ct56), sl56⟩) (c56 : PySem.W.codeIn K cd56 "Book.call" = true) (k56 : PySem.W.keepIn K (.ref f56) = true)
    {f57 : Addr} {od57 an57 : Option Addr} {sl57 : Array (Option Value)} {oc57 kV57 dc57 pm57 cd57 ct57 : Value}
    (a57 : PySem.W.findIn K (.ref LBook) "moment_at" = some (some (.ref f57))) (i57 : PySem.W.isFn K (.ref f57) = true) (l57 : K.lookup f57 = some ⟨oc57, od57, .func (PySem.W.fnOf "moment_at" "Book.moment_at" (defArgs s_Book_moment_at) (defBody s_Book_moment_at) (defScope s_Book_moment_at) .none kV57 dc57 pm57 an57 cd57 ct57), sl57⟩) (c57 : PySem.W.codeIn K cd57 "Book.moment_at" = true) (k57 : PySem.W.keepIn K (.ref f57) = true)
    {f58 : Addr} {od58 an58 : Option Addr} {sl58 : Array (Option Value)} {oc58 kV58 dc58 pm58 cd58 ct58 : Value}
    (a58 : PySem.W.findIn K (.ref LBook) "moment_of" = some (some (.ref f58))) (i58 : PySem.W.isFn K (.ref f58) = true) (l58 : K.lookup f58 = some ⟨oc58, od58, .func (PySem.W.fnOf "moment_of" "Book.moment_of" (defArgs s_Book_moment_of) (defBody s_Book_moment_of) (defScope s_Book_moment_of) .none kV58 dc58 pm58 an58 cd58 ct58), sl58⟩) (c58 : PySem.W.codeIn K cd58 "Book.moment_of" = true) (k58 : PySem.W.keepIn K (.ref f58) = true)
    {f59 : Addr} {od59 an59 : Option Addr} {sl59 : Array (Option Value)} {oc59 kV59 dc59 pm59 cd59 ct59 : Value}
    (a59 : PySem.W.findIn K (.ref LBook) "names" = some (some (.ref f59))) (i59 : PySem.W.isFn K (.ref f59) = true) (l59 : K.lookup f59 = some ⟨oc59, od59, .func (PySem.W.fnOf "names" "Book.names" (defArgs s_Book_names) (defBody s_Book_names) (defScope s_Book_names) .none kV59 dc59 pm59 an59 cd59 ct59), sl59⟩) (c59 : PySem.W.codeIn K cd59 "Book.names" = true) (k59 : PySem.W.keepIn K (.ref f59) = true)
    {D59 : Addr} (h59 : kV59 = .ref D59) (n59 : PySem.W.nsIn K D59 "at" = some (some .none))
    {f60 : Addr} {od60 an60 : Option Addr} {sl60 : Array (Option Value)} {oc60 kV60 dc60 pm60 cd60 ct60 : Value}
    (a60 : PySem.W.findIn K (.ref LBook) "heard" = some (some (.ref f60))) (i60 : PySem.W.isFn K (.ref f60) = true) (l60 : K.lookup f60 = some ⟨oc60, od60, .func (PySem.W.fnOf "heard" "Book.heard" (defArgs s_Book_heard) (defBody s_Book_heard) (defScope s_Book_heard) .none kV60 dc60 pm60 an60 cd60 ct60), sl60⟩) (c60 : PySem.W.codeIn K cd60 "Book.heard" = true) (k60 : PySem.W.keepIn K (.ref f60) = true)
    {D60 : Addr} (h60 : kV60 = .ref D60) (n60 : PySem.W.nsIn K D60 "at" = some (some .none))
    {f61 : Addr} {od61 an61 : Option Addr} {sl61 : Array (Option Value)} {oc61 kV61 dc61 pm61 cd61 ct61 : Value}
    (a61 : PySem.W.findIn K (.ref LBook) "known" = some (some (.ref f61))) (i61 : PySem.W.isFn K (.ref f61) = true) (l61 : K.lookup f61 = some ⟨oc61, od61, .func (PySem.W.fnOf "known" "Book.known" (defArgs s_Book_known) (defBody s_Book_known) (defScope s_Book_known) .none kV61 dc61 pm61 an61 cd61 ct61), sl61⟩) (c61 : PySem.W.codeIn K cd61 "Book.known" = true) (k61 : PySem.W.keepIn K (.ref f61) = true)
    {D61 : Addr} (h61 : kV61 = .ref D61) (n61 : PySem.W.nsIn K D61 "at" = some (some .none))
    (z_abs : PySem.W.nsIn K mainGlobals "abs" = some none)
    (z_all : PySem.W.nsIn K mainGlobals "all" = some none)
    (z_bool : PySem.W.nsIn K mainGlobals "bool" = some none)
    (z_dict : PySem.W.nsIn K mainGlobals "dict" = some none)
    (z_enumerate : PySem.W.nsIn K mainGlobals "enumerate" = some none)
    (z_int : PySem.W.nsIn K mainGlobals "int" = some none)
    (z_isinstance : PySem.W.nsIn K mainGlobals "isinstance" = some none)
    (z_len : PySem.W.nsIn K mainGlobals "len" = some none)
    (z_list : PySem.W.nsIn K mainGlobals "list" = some none)
    (z_max : PySem.W.nsIn K mainGlobals "max" = some none)
    (z_range : PySem.W.nsIn K mainGlobals "range" = some none)
    (z_sorted : PySem.W.nsIn K mainGlobals "sorted" = some none)
    (z_str : PySem.W.nsIn K mainGlobals "str" = some none)
    (z_tuple : PySem.W.nsIn K mainGlobals "tuple" = some none)
    (z_zip : PySem.W.nsIn K mainGlobals "zip" = some none)
    (z_ValueError : PySem.W.nsIn K mainGlobals "ValueError" = some none)
    (en_get : PySem.W.specialIn K (.builtin "object.__class__") "__get__" = some (some (.builtin "getset_descriptor.__get__"))) (en_set : PySem.W.takesIn K (.builtin "object.__class__") = some true)
    {C0 : Addr} (ea0 : PySem.W.nsIn K mainGlobals "CallError" = some (some (.ref C0))) (ek0 : PySem.W.keepIn K (.ref C0) = true) (eb0 : PySem.W.subIn K (.ref C0) (.type "BaseException") = some true) (et0 : PySem.W.typeIn K (.ref C0) = some (.type "type")) (ed0 : PySem.W.hasDictIn K C0 = true)
    (eg0 : PySem.W.findIn K (.ref C0) "__getattribute__" = some (some (.builtin "BaseException.__getattribute__"))) (eh0 : PySem.W.findIn K (.ref C0) "__getattr__" = some none) (ec0 : PySem.W.findIn K (.ref C0) "__class__" = some (some (.builtin "object.__class__"))) (em0 : PySem.W.mroIn K C0 (.type "object") = some true)
    (ex0 : PySem.W.excIn K C0 [.type "ValueError", .type "Exception", .type "BaseException", .type "object"] "ValueError.__new__" = true)
    {C1 : Addr} (ea1 : PySem.W.nsIn K mainGlobals "NoRow" = some (some (.ref C1))) (ek1 : PySem.W.keepIn K (.ref C1) = true) (eb1 : PySem.W.subIn K (.ref C1) (.type "BaseException") = some true) (et1 : PySem.W.typeIn K (.ref C1) = some (.type "type")) (ed1 : PySem.W.hasDictIn K C1 = true)
    (eg1 : PySem.W.findIn K (.ref C1) "__getattribute__" = some (some (.builtin "BaseException.__getattribute__"))) (eh1 : PySem.W.findIn K (.ref C1) "__getattr__" = some none) (ec1 : PySem.W.findIn K (.ref C1) "__class__" = some (some (.builtin "object.__class__"))) (em1 : PySem.W.mroIn K C1 (.type "object") = some true)
    (ex1 : PySem.W.excIn K C1 [.type "ValueError", .type "Exception", .type "BaseException", .type "object"] "ValueError.__new__" = true)
    {C2 : Addr} (ea2 : PySem.W.nsIn K mainGlobals "NotKnown" = some (some (.ref C2))) (ek2 : PySem.W.keepIn K (.ref C2) = true) (eb2 : PySem.W.subIn K (.ref C2) (.type "BaseException") = some true) (et2 : PySem.W.typeIn K (.ref C2) = some (.type "type")) (ed2 : PySem.W.hasDictIn K C2 = true)
    (eg2 : PySem.W.findIn K (.ref C2) "__getattribute__" = some (some (.builtin "BaseException.__getattribute__"))) (eh2 : PySem.W.findIn K (.ref C2) "__getattr__" = some none) (ec2 : PySem.W.findIn K (.ref C2) "__class__" = some (some (.builtin "object.__class__"))) (em2 : PySem.W.mroIn K C2 (.type "object") = some true)
    {gE2 : Addr} {odE2 anE2 : Option Addr} {slE2 : Array (Option Value)} {ocE2 kVE2 dcE2 pmE2 cdE2 ctE2 : Value}
    (fi2 : PySem.W.findIn K (.ref C2) "__init__" = some (some (.ref gE2))) (ft2 : PySem.W.typeIn K (.ref gE2) = some (.type "function")) (fl2 : K.lookup gE2 = some ⟨ocE2, odE2, .func (PySem.W.fnOf "__init__" "NotKnown.__init__" (defArgs s_NotKnown___init__) (defBody s_NotKnown___init__) (defScope s_NotKnown___init__) .none kVE2 dcE2 pmE2 anE2 cdE2 ctE2), slE2⟩) (fc2 : PySem.W.codeIn K cdE2 "NotKnown.__init__" = true)
    (fm2 : PySem.W.excInitIn K C2 [.type "ValueError", .type "Exception", .type "BaseException", .type "object"] "ValueError.__new__" = true) (fo2 : PySem.W.excOver K C2 [.type "ValueError", .type "Exception", .type "BaseException", .type "object"] = true) (fs2 : PySem.W.findIn K (.ref C2) "__setattr__" = some (some (.builtin "object.__setattr__"))) (ff2 : PySem.W.findIn K (.ref C2) "name" = some none)
    (s0_0 : PySem.W.subIn K (.ref C0) (.ref C0) = some true)
    (s1_1 : PySem.W.subIn K (.ref C1) (.ref C1) = some true)
    (s2_0 : PySem.W.subIn K (.ref C2) (.ref C0) = some true)
    (s2_1 : PySem.W.subIn K (.ref C2) (.ref C1) = some false)
    (s2_2 : PySem.W.subIn K (.ref C2) (.ref C2) = some true)
    (s2_ValueError : PySem.W.subIn K (.ref C2) (.type "ValueError") = some true)
    {DS : Addr} {esS : Array DictEntry} {nS : Nat} (qS : PySem.W.nsIn K mainGlobals "STEPS" = some (some (.ref DS))) (qD : K.lookup DS = some ⟨.type "dict", none, .dict esS nS, #[]⟩) (qL : PySem.W.KeysLit w.params esS.toList)
    (x_call : PySem.W.nsIn K DS "call" = some (some (.ref f25))) (x_whisper : PySem.W.nsIn K DS "whisper" = some (some (.ref f26))) (x_meet : PySem.W.nsIn K DS "meet" = some (some (.ref f27))) (x_hide : PySem.W.nsIn K DS "hide" = some (some (.ref f29))) (x_change : PySem.W.nsIn K DS "change" = some (some (.ref f31))) (x_come : PySem.W.nsIn K DS "come" = some (some (.ref f33))) (x_go : PySem.W.nsIn K DS "go" = some (some (.ref f34)))
    : ∃ fd : FuncData, (∀ (s : Shared) (v : Value), BindsTo s fd ⟨[v], []⟩ [("_law_script", v)]) ∧ ∀ base : Heap, K.In base → base.Ns mainGlobals mg → FnG l.prog w K mg base CX0 15 fa fd ["_law_script"] (sp_law K) := by
  have e := hfa.symm.trans (PySem.W.mg_of X G a50)
  cases e
  have T : Top K mg := {
    e_CallError := err_of X G ea0 ek0 eb0 et0 ed0 eg0 eh0 ec0 em0 en_get en_set,
    n_CallError := by rw [adr_of (PySem.W.mg_of X G ea0)]; exact ex0,
    e_NoRow := err_of X G ea1 ek1 eb1 et1 ed1 eg1 eh1 ec1 em1 en_get en_set,
    n_NoRow := by rw [adr_of (PySem.W.mg_of X G ea1)]; exact ex1,
    e_NotKnown := err_of X G ea2 ek2 eb2 et2 ed2 eg2 eh2 ec2 em2 en_get en_set,
    f_NotKnown := errF_of (st := s_NotKnown___init__) X G ea2 fi2 ft2 fl2 fc2 fm2 fo2 fs2 ff2 rfl rfl (fun _ _ _ _ _ => .of_eq rfl) ⟨by decide, by decide⟩,
    s_CallError_CallError := by rw [adr_of (PySem.W.mg_of X G ea0)]; exact s0_0,
    s_NoRow_NoRow := by rw [adr_of (PySem.W.mg_of X G ea1)]; exact s1_1,
    s_NotKnown_CallError := by rw [adr_of (PySem.W.mg_of X G ea2), adr_of (PySem.W.mg_of X G ea0)]; exact s2_0,
    s_NotKnown_NoRow := by rw [adr_of (PySem.W.mg_of X G ea2), adr_of (PySem.W.mg_of X G ea1)]; exact s2_1,
    s_NotKnown_NotKnown := by rw [adr_of (PySem.W.mg_of X G ea2)]; exact s2_2,
    s_NotKnown_ValueError := by rw [adr_of (PySem.W.mg_of X G ea2)]; exact s2_ValueError,
    k_Moment := clsN_of X G qaMoment qpMoment qhMoment qoMoment qsMoment qmMoment qkMoment,
    na_Moment_p := noA_of X G qaMoment qnMoment_p,
    na_Moment_n := noA_of X G qaMoment qnMoment_n,
    na_Moment_called := noA_of X G qaMoment qnMoment_called,
    na_Moment_hands := noA_of X G qaMoment qnMoment_hands,
    k_Book := clsN_of X G qaBook qpBook qhBook qoBook qsBook qmBook qkBook,
    na_Book_made := noA_of X G qaBook qnBook_made,
    na_Book_moments := noA_of X G qaBook qnBook_moments,
    na_Book_done := noA_of X G qaBook qnBook_done,
    na_Book_trials := noA_of X G qaBook qnBook_trials,
    na_Book_amid := noA_of X G qaBook qnBook_amid,
    c_LETTERS := ⟨_, PySem.W.mg_of X G qcLETTERS⟩,
    c_DEEDS := ⟨_, PySem.W.mg_of X G qcDEEDS⟩,
    d_Moment___init__ := dfM_of X G qaMoment a51 i51 l51 c51 k51 (fun _ _ _ _ _ _ us hl => match us, hl with | [_, _, _, _, _], _ => rfl),
    d_Book___init__ := dfM_of X G qaBook a52 i52 l52 c52 k52 (fun _ _ _ _ _ _ us hl => match us, hl with | [_, _, _, _], _ => rfl),
    d_Book_now := dfM_of X G qaBook a53 i53 l53 c53 k53 (fun _ _ _ _ _ _ us hl => match us, hl with | [_], _ => rfl),
    d_Book_refuse_amid := dfM_of X G qaBook a54 i54 l54 c54 k54 (fun _ _ _ _ _ _ us hl => match us, hl with | [_], _ => rfl),
    d_Book_perform := dfM_of X G qaBook a55 i55 l55 c55 k55 (fun _ _ _ _ _ _ us hl => match us, hl with | [_, _], _ => rfl),
    d_Book_call := dfM_of X G qaBook a56 i56 l56 c56 k56 (fun _ _ _ _ _ _ us hl => match us, hl with | [_, _, _], _ => rfl),
    d_Book_moment_at := dfM_of X G qaBook a57 i57 l57 c57 k57 (fun _ _ _ _ _ _ us hl => match us, hl with | [_, _], _ => rfl),
    d_Book_moment_of := dfM_of X G qaBook a58 i58 l58 c58 k58 (fun _ _ _ _ _ _ us hl => match us, hl with | [_, _, _, _], _ => rfl),
    d_Book_names := dfMD_of (n := 1) X G qaBook a59 i59 l59 c59 k59 h59 n59 (fun _ _ _ _ _ _ us hl => match us, hl with | [_], _ => ⟨_, _, _, _, _, _, rfl, rfl, rfl⟩),
    d_Book_heard := dfMD_of (n := 2) X G qaBook a60 i60 l60 c60 k60 h60 n60 (fun _ _ _ _ _ _ us hl => match us, hl with | [_, _], _ => ⟨_, _, _, _, _, _, rfl, rfl, rfl⟩),
    d_Book_known := dfMD_of (n := 2) X G qaBook a61 i61 l61 c61 k61 h61 n61 (fun _ _ _ _ _ _ us hl => match us, hl with | [_, _], _ => ⟨_, _, _, _, _, _, rfl, rfl, rfl⟩),
    b_abs := PySem.W.mg_none_of X G z_abs,
    b_all := PySem.W.mg_none_of X G z_all,
    b_bool := PySem.W.mg_none_of X G z_bool,
    b_dict := PySem.W.mg_none_of X G z_dict,
    b_enumerate := PySem.W.mg_none_of X G z_enumerate,
    b_int := PySem.W.mg_none_of X G z_int,
    b_isinstance := PySem.W.mg_none_of X G z_isinstance,
    b_len := PySem.W.mg_none_of X G z_len,
    b_list := PySem.W.mg_none_of X G z_list,
    b_max := PySem.W.mg_none_of X G z_max,
    b_range := PySem.W.mg_none_of X G z_range,
    b_sorted := PySem.W.mg_none_of X G z_sorted,
    b_str := PySem.W.mg_none_of X G z_str,
    b_tuple := PySem.W.mg_none_of X G z_tuple,
    b_zip := PySem.W.mg_none_of X G z_zip,
    b_ValueError := PySem.W.mg_none_of X G z_ValueError,
    d_is_name := df_of X G a0 l0 c0 k0 (fun _ _ _ _ _ _ us hl => match us, hl with | [_], _ => rfl),
    d_is_rising := df_of X G a1 l1 c1 k1 (fun _ _ _ _ _ _ us hl => match us, hl with | [_], _ => rfl),
    d_are_names := df_of X G a2 l2 c2 k2 (fun _ _ _ _ _ _ us hl => match us, hl with | [_], _ => rfl),
    d_is_number := df_of X G a3 l3 c3 k3 (fun _ _ _ _ _ _ us hl => match us, hl with | [_], _ => rfl),
    d_is_rest := df_of X G a4 l4 c4 k4 (fun _ _ _ _ _ _ us hl => match us, hl with | [_, _], _ => rfl),
    d_contrary := df_of X G a5 l5 c5 k5 (fun _ _ _ _ _ _ us hl => match us, hl with | [_, _], _ => rfl),
    d_is_row := df_of X G a6 l6 c6 k6 (fun _ _ _ _ _ _ us hl => match us, hl with | [_, _, _], _ => rfl),
    d_added := df_of X G a7 l7 c7 k7 (fun _ _ _ _ _ _ us hl => match us, hl with | [_, _, _], _ => rfl),
    d_times := df_of X G a8 l8 c8 k8 (fun _ _ _ _ _ _ us hl => match us, hl with | [_, _, _], _ => rfl),
    d_check_hand := df_of X G a9 l9 c9 k9 (fun _ _ _ _ _ _ us hl => match us, hl with | [_, _], _ => rfl),
    d_check_hands := df_of X G a10 l10 c10 k10 (fun _ _ _ _ _ _ us hl => match us, hl with | [_, _, _], _ => rfl),
    d_check_row := df_of X G a11 l11 c11 k11 (fun _ _ _ _ _ _ us hl => match us, hl with | [_, _, _], _ => rfl),
    d_led := df_of X G a12 l12 c12 k12 (fun _ _ _ _ _ _ us hl => match us, hl with | [_, _, _, _], _ => rfl),
    d_is_noughts := df_of X G a13 l13 c13 k13 (fun _ _ _ _ _ _ us hl => match us, hl with | [_], _ => rfl),
    d_first_place := df_of X G a14 l14 c14 k14 (fun _ _ _ _ _ _ us hl => match us, hl with | [_], _ => rfl),
    d_cleared := df_of X G a15 l15 c15 k15 (fun _ _ _ _ _ _ us hl => match us, hl with | [_, _, _], _ => rfl),
    d_left_of := df_of X G a16 l16 c16 k16 (fun _ _ _ _ _ _ us hl => match us, hl with | [_, _, _], _ => rfl),
    d_widened := df_of X G a17 l17 c17 k17 (fun _ _ _ _ _ _ us hl => match us, hl with | [_, _, _], _ => rfl),
    d_room_of := df_of X G a18 l18 c18 k18 (fun _ _ _ _ _ _ us hl => match us, hl with | [_, _, _], _ => rfl),
    d_within := df_of X G a19 l19 c19 k19 (fun _ _ _ _ _ _ us hl => match us, hl with | [_, _, _], _ => rfl),
    d_needed := df_of X G a20 l20 c20 k20 (fun _ _ _ _ _ _ us hl => match us, hl with | [_, _, _], _ => rfl),
    d_names_at := df_of X G a21 l21 c21 k21 (fun _ _ _ _ _ _ us hl => match us, hl with | [_], _ => rfl),
    d_heard_at := df_of X G a22 l22 c22 k22 (fun _ _ _ _ _ _ us hl => match us, hl with | [_, _], _ => rfl),
    d_known_at := df_of X G a23 l23 c23 k23 (fun _ _ _ _ _ _ us hl => match us, hl with | [_, _], _ => rfl),
    d_are_first_rows := df_of X G a24 l24 c24 k24 (fun _ _ _ _ _ _ us hl => match us, hl with | [_, _], _ => rfl),
    d_after_call := df_of X G a25 l25 c25 k25 (fun _ _ _ _ _ _ us hl => match us, hl with | [_, _, _], _ => rfl),
    d_after_whisper := df_of X G a26 l26 c26 k26 (fun _ _ _ _ _ _ us hl => match us, hl with | [_, _, _], _ => rfl),
    d_after_meet := df_of X G a27 l27 c27 k27 (fun _ _ _ _ _ _ us hl => match us, hl with | [_, _], _ => rfl),
    d_news := df_of X G a28 l28 c28 k28 (fun _ _ _ _ _ _ us hl => match us, hl with | [_, _, _], _ => rfl),
    d_after_hide := df_of X G a29 l29 c29 k29 (fun _ _ _ _ _ _ us hl => match us, hl with | [_], _ => rfl),
    d_longer := df_of X G a30 l30 c30 k30 (fun _ _ _ _ _ _ us hl => match us, hl with | [_], _ => rfl),
    d_after_change := df_of X G a31 l31 c31 k31 (fun _ _ _ _ _ _ us hl => match us, hl with | [_, _, _], _ => rfl),
    d_all_led := df_of X G a32 l32 c32 k32 (fun _ _ _ _ _ _ us hl => match us, hl with | [_, _, _, _], _ => rfl),
    d_after_come := df_of X G a33 l33 c33 k33 (fun _ _ _ _ _ _ us hl => match us, hl with | [_, _, _], _ => rfl),
    d_after_go := df_of X G a34 l34 c34 k34 (fun _ _ _ _ _ _ us hl => match us, hl with | [_, _], _ => rfl),
    d_after := df_of X G a35 l35 c35 k35 (fun _ _ _ _ _ _ us hl => match us, hl with | [_, _], _ => rfl),
    d__law_deck := df_of X G a36 l36 c36 k36 (fun _ _ _ _ _ _ us hl => match us, hl with | [_], _ => rfl),
    d__law_draw := df_of X G a37 l37 c37 k37 (fun _ _ _ _ _ _ us hl => match us, hl with | [_, _], _ => rfl),
    d__law_names := df_of X G a38 l38 c38 k38 (fun _ _ _ _ _ _ us hl => match us, hl with | [_, _], _ => rfl),
    d__law_row := df_of X G a39 l39 c39 k39 (fun _ _ _ _ _ _ us hl => match us, hl with | [_, _, _], _ => rfl),
    d__law_left := df_of X G a40 l40 c40 k40 (fun _ _ _ _ _ _ us hl => match us, hl with | [_, _, _], _ => rfl),
    d__law_plain := df_of X G a41 l41 c41 k41 (fun _ _ _ _ _ _ us hl => match us, hl with | [_, _], _ => rfl),
    d__law_within := df_of X G a42 l42 c42 k42 (fun _ _ _ _ _ _ us hl => match us, hl with | [_, _, _], _ => rfl),
    d__law_made_of := df_of X G a43 l43 c43 k43 (fun _ _ _ _ _ _ us hl => match us, hl with | [_, _, _, _], _ => rfl),
    d__law_begun := df_of X G a44 l44 c44 k44 (fun _ _ _ _ _ _ us hl => match us, hl with | [_, _], _ => rfl),
    d__law_model := df_of X G a45 l45 c45 k45 (fun _ _ _ _ _ _ us hl => match us, hl with | [_], _ => rfl),
    d__law_rows_by := df_of X G a46 l46 c46 k46 (fun _ _ _ _ _ _ us hl => match us, hl with | [_, _], _ => rfl),
    d__law_room_by := df_of X G a47 l47 c47 k47 (fun _ _ _ _ _ _ us hl => match us, hl with | [_, _], _ => rfl),
    d__law_called := df_of X G a48 l48 c48 k48 (fun _ _ _ _ _ _ us hl => match us, hl with | [_, _, _], _ => rfl),
    d__law_all_right := df_of X G a49 l49 c49 k49 (fun _ _ _ _ _ _ us hl => match us, hl with | [_, _], _ => rfl) }
  have gS := PySem.W.mg_of X G qS
  have W : StepsW w K mg := ⟨by rw [adr_of gS]; exact gS, fun x f hf => by
    rw [adr_of gS]
    simp only [List.mem_cons, List.not_mem_nil, or_false, Prod.mk.injEq] at hf
    rcases hf with ⟨rfl, rfl⟩ | ⟨rfl, rfl⟩ | ⟨rfl, rfl⟩ | ⟨rfl, rfl⟩ | ⟨rfl, rfl⟩ | ⟨rfl, rfl⟩ | ⟨rfl, rfl⟩
    · rw [adr_of (PySem.W.mg_of X G a25)]; exact ⟨esS, nS, _, qD, qL, x_call, rfl⟩
    · rw [adr_of (PySem.W.mg_of X G a26)]; exact ⟨esS, nS, _, qD, qL, x_whisper, rfl⟩
    · rw [adr_of (PySem.W.mg_of X G a27)]; exact ⟨esS, nS, _, qD, qL, x_meet, rfl⟩
    · rw [adr_of (PySem.W.mg_of X G a29)]; exact ⟨esS, nS, _, qD, qL, x_hide, rfl⟩
    · rw [adr_of (PySem.W.mg_of X G a31)]; exact ⟨esS, nS, _, qD, qL, x_change, rfl⟩
    · rw [adr_of (PySem.W.mg_of X G a33)]; exact ⟨esS, nS, _, qD, qL, x_come, rfl⟩
    · rw [adr_of (PySem.W.mg_of X G a34)]; exact ⟨esS, nS, _, qD, qL, x_go, rfl⟩⟩
  have F := fun_mk (st := s_law) l50 c50 k50
  exact ⟨PySem.W.fnOf "law" "law" (defArgs s_law) (defBody s_law) (defScope s_law) .none kV50 dc50 pm50 an50 cd50 ct50, fun s v => .of_eq rfl, fun base _ _ => ok_law T W F⟩
end OC
open PySem PySem.W PyProof.Rows
set_option Elab.async false
set_option maxRecDepth 100000 in
set_option maxHeartbeats 0 in
theorem PySem.Challenge.cw_opencalls_k16_calls_heard_holds : PySem.Challenge.rw_opencalls_k16_calls_heard.Holds := by
  w_on; o_law
  refine HandSHeadRun.head_any (r := OpenLaw.row PySem.Challenge.rw_opencalls_k16_calls_heard) (q := view (OpenLaw.row PySem.Challenge.rw_opencalls_k16_calls_heard).prog [84]) (H := kHook OCR.K0 OCR.as0 OCR.as_ok) (ob := OCR.ob) (M := 20000) (loose := OCR.names) (d := HandSHeadRun.topDef (OpenLaw.row PySem.Challenge.rw_opencalls_k16_calls_heard).prog 84) (kwd := []) OCR.ob_eq
    (by kernel_rfl) (fun s => by kernel_rfl) OCR.run (by kernel_rfl) (by kernel_rfl) (by kernel_rfl) (by rfl) (by first | assumption | decide +kernel) (by decide +kernel) ⟨rfl, rfl, rfl, rfl, rfl, by decide +kernel⟩ ?hw ?hc
  case hw => w_witness2
  case hc =>
    k_fill
    refine OC.walk_ofG (l := PySem.Challenge.rw_opencalls_k16_calls_heard) (n := 63) (k := 15) (x := "_law_script") (CX := fun _ => L2.CX0) (sp := fun w => OC.sp_law _) rfl (by decide) (by kernel_rfl) ⟨rfl, by decide, by decide⟩ (K := OCR.K0) (fun w h Y => PySem.W.kIn_of Y) ?F (fun _ _ a ns hl _ hS => ⟨a, ns, rfl, hS, hl, fun _ => rfl⟩) (fun _ _ _ _ _ h => h)
    case F =>
      intro w mg fa h KX G hmg0
      have hmg : mg ("law" : PySem.Str) = some (.ref fa) := by
        have e : (HandSHeadRun.topDef (OpenLaw.row PySem.Challenge.rw_opencalls_k16_calls_heard).prog 84).name = ("law" : PySem.Str) := by kernel_rfl
        rw [← e]
        exact hmg0
      refine' OC.all_mk KX G hmg ?qaMoment ?qpMoment ?qhMoment ?qoMoment ?qsMoment ?qmMoment ?qkMoment ?qnMoment_p ?qnMoment_n ?qnMoment_called ?qnMoment_hands ?qaBook ?qpBook ?qhBook ?qoBook ?qsBook ?qmBook ?qkBook ?qnBook_made ?qnBook_moments ?qnBook_done ?qnBook_trials ?qnBook_amid ?qcLETTERS ?qcDEEDS ?a0 ?l0 ?c0 ?k0 ?a1 ?l1 ?c1 ?k1 ?a2 ?l2 ?c2 ?k2 ?a3 ?l3 ?c3 ?k3 ?a4 ?l4 ?c4 ?k4 ?a5 ?l5 ?c5 ?k5 ?a6 ?l6 ?c6 ?k6 ?a7 ?l7 ?c7 ?k7 ?a8 ?l8 ?c8 ?k8 ?a9 ?l9 ?c9 ?k9 ?a10 ?l10 ?c10 ?k10 ?a11 ?l11 ?c11 ?k11 ?a12 ?l12 ?c12 ?k12 ?a13 ?l13 ?c13 ?k13 ?a14 ?l14 ?c14 ?k14 ?a15 ?l15 ?c15 ?k15 ?a16 ?l16 ?c16 ?k16 ?a17 ?l17 ?c17 ?k17 ?a18 ?l18 ?c18 ?k18 ?a19 ?l19 ?c19 ?k19 ?a20 ?l20 ?c20 ?k20 ?a21 ?l21 ?c21 ?k21 ?a22 ?l22 ?c22 ?k22 ?a23 ?l23 ?c23 ?k23 ?a24 ?l24 ?c24 ?k24 ?a25 ?l25 ?c25 ?k25 ?a26 ?l26 ?c26 ?k26 ?a27 ?l27 ?c27 ?k27 ?a28 ?l28 ?c28 ?k28 ?a29 ?l29 ?c29 ?k29 ?a30 ?l30 ?c30 ?k30 ?a31 ?l31 ?c31 ?k31 ?a32 ?l32 ?c32 ?k32 ?a33 ?l33 ?c33 ?k33 ?a34 ?l34 ?c34 ?k34 ?a35 ?l35 ?c35 ?k35 ?a36 ?l36 ?c36 ?k36 ?a37 ?l37 ?c37 ?k37 ?a38 ?l38 ?c38 ?k38 ?a39 ?l39 ?c39 ?k39 ?a40 ?l40 ?c40 ?k40 ?a41 ?l41 ?c41 ?k41 ?a42 ?l42 ?c42 ?k42 ?a43 ?l43 ?c43 ?k43 ?a44 ?l44 ?c44 ?k44 ?a45 ?l45 ?c45 ?k45 ?a46 ?l46 ?c46 ?k46 ?a47 ?l47 ?c47 ?k47 ?a48 ?l48 ?c48 ?k48 ?a49 ?l49 ?c49 ?k49 ?a50 ?l50 ?c50 ?k50 ?a51 ?i51 ?l51 ?c51 ?k51 ?a52 ?i52 ?l52 ?c52 ?k52 ?a53 ?i53 ?l53 ?c53 ?k53 ?a54 ?i54 ?l54 ?c54 ?k54 ?a55 ?i55 ?l55 ?c55 ?k55 ?a56 ?i56 ?l56 ?c56 ?k56 ?a57 ?i57 ?l57 ?c57 ?k57 ?a58 ?i58 ?l58 ?c58 ?k58 ?a59 ?i59 ?l59 ?c59 ?k59 ?h59 ?n59 ?a60 ?i60 ?l60 ?c60 ?k60 ?h60 ?n60 ?a61 ?i61 ?l61 ?c61 ?k61 ?h61 ?n61 ?z_abs ?z_all ?z_bool ?z_dict ?z_enumerate ?z_int ?z_isinstance ?z_len ?z_list ?z_max ?z_range ?z_sorted ?z_str ?z_tuple ?z_zip ?z_ValueError ?en_get ?en_set ?ea0 ?ek0 ?eb0 ?et0 ?ed0 ?eg0 ?eh0 ?ec0 ?em0 ?ex0 ?ea1 ?ek1 ?eb1 ?et1 ?ed1 ?eg1 ?eh1 ?ec1 ?em1 ?ex1 ?ea2 ?ek2 ?eb2 ?et2 ?ed2 ?eg2 ?eh2 ?ec2 ?em2 ?fi2 ?ft2 ?fl2 ?fc2 ?fm2 ?fo2 ?fs2 ?ff2 ?s0_0 ?s1_1 ?s2_0 ?s2_1 ?s2_2 ?s2_ValueError ?qS ?qD ?qL ?x_call ?x_whisper ?x_meet ?x_hide ?x_change ?x_come ?x_go
      (case qaMoment => k_is); (case qpMoment => k_is); (case qhMoment => k_is); (case qoMoment => k_is); (case qsMoment => k_is); (case qmMoment => k_is); (case qkMoment => k_is); (case qnMoment_p => k_is); (case qnMoment_n => k_is); (case qnMoment_called => k_is); (case qnMoment_hands => k_is); (case qaBook => k_is); (case qpBook => k_is); (case qhBook => k_is); (case qoBook => k_is); (case qsBook => k_is); (case qmBook => k_is); (case qkBook => k_is); (case qnBook_made => k_is); (case qnBook_moments => k_is); (case qnBook_done => k_is); (case qnBook_trials => k_is); (case qnBook_amid => k_is); (case qcLETTERS => k_is); (case qcDEEDS => k_is); (case a0 => k_is); (case l0 => k_is); (case c0 => k_is); (case k0 => k_is); (case a1 => k_is); (case l1 => k_is); (case c1 => k_is); (case k1 => k_is); (case a2 => k_is); (case l2 => k_is); (case c2 => k_is); (case k2 => k_is); (case a3 => k_is); (case l3 => k_is); (case c3 => k_is); (case k3 => k_is); (case a4 => k_is); (case l4 => k_is); (case c4 => k_is); (case k4 => k_is); (case a5 => k_is); (case l5 => k_is); (case c5 => k_is); (case k5 => k_is); (case a6 => k_is); (case l6 => k_is); (case c6 => k_is); (case k6 => k_is); (case a7 => k_is); (case l7 => k_is); (case c7 => k_is); (case k7 => k_is); (case a8 => k_is); (case l8 => k_is); (case c8 => k_is); (case k8 => k_is); (case a9 => k_is); (case l9 => k_is); (case c9 => k_is); (case k9 => k_is); (case a10 => k_is); (case l10 => k_is); (case c10 => k_is); (case k10 => k_is); (case a11 => k_is); (case l11 => k_is); (case c11 => k_is); (case k11 => k_is); (case a12 => k_is); (case l12 => k_is); (case c12 => k_is); (case k12 => k_is); (case a13 => k_is); (case l13 => k_is); (case c13 => k_is); (case k13 => k_is); (case a14 => k_is); (case l14 => k_is); (case c14 => k_is); (case k14 => k_is); (case a15 => k_is); (case l15 => k_is); (case c15 => k_is); (case k15 => k_is); (case a16 => k_is); (case l16 => k_is); (case c16 => k_is); (case k16 => k_is); (case a17 => k_is); (case l17 => k_is); (case c17 => k_is); (case k17 => k_is); (case a18 => k_is); (case l18 => k_is); (case c18 => k_is); (case k18 => k_is); (case a19 => k_is); (case l19 => k_is); (case c19 => k_is); (case k19 => k_is); (case a20 => k_is); (case l20 => k_is); (case c20 => k_is); (case k20 => k_is); (case a21 => k_is); (case l21 => k_is); (case c21 => k_is); (case k21 => k_is); (case a22 => k_is); (case l22 => k_is); (case c22 => k_is); (case k22 => k_is); (case a23 => k_is); (case l23 => k_is); (case c23 => k_is); (case k23 => k_is); (case a24 => k_is); (case l24 => k_is); (case c24 => k_is); (case k24 => k_is); (case a25 => k_is); (case l25 => k_is); (case c25 => k_is); (case k25 => k_is); (case a26 => k_is); (case l26 => k_is); (case c26 => k_is); (case k26 => k_is); (case a27 => k_is); (case l27 => k_is); (case c27 => k_is); (case k27 => k_is); (case a28 => k_is); (case l28 => k_is); (case c28 => k_is); (case k28 => k_is); (case a29 => k_is); (case l29 => k_is); (case c29 => k_is); (case k29 => k_is); (case a30 => k_is); (case l30 => k_is); (case c30 => k_is); (case k30 => k_is); (case a31 => k_is); (case l31 => k_is); (case c31 => k_is); (case k31 => k_is); (case a32 => k_is); (case l32 => k_is); (case c32 => k_is); (case k32 => k_is); (case a33 => k_is); (case l33 => k_is); (case c33 => k_is); (case k33 => k_is); (case a34 => k_is); (case l34 => k_is); (case c34 => k_is); (case k34 => k_is); (case a35 => k_is); (case l35 => k_is); (case c35 => k_is); (case k35 => k_is); (case a36 => k_is); (case l36 => k_is); (case c36 => k_is); (case k36 => k_is); (case a37 => k_is); (case l37 => k_is); (case c37 => k_is); (case k37 => k_is); (case a38 => k_is); (case l38 => k_is); (case c38 => k_is); (case k38 => k_is); (case a39 => k_is); (case l39 => k_is); (case c39 => k_is); (case k39 => k_is); (case a40 => k_is); (case l40 => k_is); (case c40 => k_is); (case k40 => k_is); (case a41 => k_is); (case l41 => k_is); (case c41 => k_is); (case k41 => k_is); (case a42 => k_is); (case l42 => k_is); (case c42 => k_is); (case k42 => k_is); (case a43 => k_is); (case l43 => k_is); (case c43 => k_is); (case k43 => k_is); (case a44 => k_is); (case l44 => k_is); (case c44 => k_is); (case k44 => k_is); (case a45 => k_is); (case l45 => k_is); (case c45 => k_is); (case k45 => k_is); (case a46 => k_is); (case l46 => k_is); (case c46 => k_is); (case k46 => k_is); (case a47 => k_is); (case l47 => k_is); (case c47 => k_is); (case k47 => k_is); (case a48 => k_is); (case l48 => k_is); (case c48 => k_is); (case k48 => k_is); (case a49 => k_is); (case l49 => k_is); (case c49 => k_is); (case k49 => k_is); (case a50 => k_is); (case l50 => k_is); (case c50 => k_is); (case k50 => k_is); (case a51 => k_is); (case i51 => k_is); (case l51 => k_is); (case c51 => k_is); (case k51 => k_is); (case a52 => k_is); (case i52 => k_is); (case l52 => k_is); (case c52 => k_is); (case k52 => k_is); (case a53 => k_is); (case i53 => k_is); (case l53 => k_is); (case c53 => k_is); (case k53 => k_is); (case a54 => k_is); (case i54 => k_is); (case l54 => k_is); (case c54 => k_is); (case k54 => k_is); (case a55 => k_is); (case i55 => k_is); (case l55 => k_is); (case c55 => k_is); (case k55 => k_is); (case a56 => k_is); (case i56 => k_is); (case l56 => k_is); (case c56 => k_is); (case k56 => k_is); (case a57 => k_is); (case i57 => k_is); (case l57 => k_is); (case c57 => k_is); (case k57 => k_is); (case a58 => k_is); (case i58 => k_is); (case l58 => k_is); (case c58 => k_is); (case k58 => k_is); (case a59 => k_is); (case i59 => k_is); (case l59 => k_is); (case c59 => k_is); (case k59 => k_is); (case h59 => exact rfl); (case n59 => k_is); (case a60 => k_is); (case i60 => k_is); (case l60 => k_is); (case c60 => k_is); (case k60 => k_is); (case h60 => exact rfl); (case n60 => k_is); (case a61 => k_is); (case i61 => k_is); (case l61 => k_is); (case c61 => k_is); (case k61 => k_is); (case h61 => exact rfl); (case n61 => k_is); (case z_abs => k_is); (case z_all => k_is); (case z_bool => k_is); (case z_dict => k_is); (case z_enumerate => k_is); (case z_int => k_is); (case z_isinstance => k_is); (case z_len => k_is); (case z_list => k_is); (case z_max => k_is); (case z_range => k_is); (case z_sorted => k_is); (case z_str => k_is); (case z_tuple => k_is); (case z_zip => k_is); (case z_ValueError => k_is); (case en_get => k_is); (case en_set => k_is); (case ea0 => k_is); (case ek0 => k_is); (case eb0 => k_is); (case et0 => k_is); (case ed0 => k_is); (case eg0 => k_is); (case eh0 => k_is); (case ec0 => k_is); (case em0 => k_is); (case ex0 => k_exc); (case ea1 => k_is); (case ek1 => k_is); (case eb1 => k_is); (case et1 => k_is); (case ed1 => k_is); (case eg1 => k_is); (case eh1 => k_is); (case ec1 => k_is); (case em1 => k_is); (case ex1 => k_exc); (case ea2 => k_is); (case ek2 => k_is); (case eb2 => k_is); (case et2 => k_is); (case ed2 => k_is); (case eg2 => k_is); (case eh2 => k_is); (case ec2 => k_is); (case em2 => k_is); (case fi2 => k_is); (case ft2 => k_is); (case fl2 => k_is); (case fc2 => k_is); (case fm2 => first | k_exc | k_is | decide +kernel | kernel_rfl); (case fo2 => first | k_exc | k_is | decide +kernel | kernel_rfl); (case fs2 => k_is); (case ff2 => k_is); (case s0_0 => k_is); (case s1_1 => k_is); (case s2_0 => k_is); (case s2_1 => k_is); (case s2_2 => k_is); (case s2_ValueError => k_is); (case qS => k_is); (case qD => k_is); (case qL => exact ⟨⟨_, _, rfl, rfl⟩, ⟨_, _, rfl, rfl⟩, ⟨_, _, rfl, rfl⟩, ⟨_, _, rfl, rfl⟩, ⟨_, _, rfl, rfl⟩, ⟨_, _, rfl, rfl⟩, ⟨_, _, rfl, rfl⟩, trivial⟩); (case x_call => k_is); (case x_whisper => k_is); (case x_meet => k_is); (case x_hide => k_is); (case x_change => k_is); (case x_come => k_is); (case x_go => k_is)
