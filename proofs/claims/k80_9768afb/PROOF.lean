import PyProof.Rows.All
import Wide.All
import OpenK.AllK
import Wide.FinOn
import HandS.Base
import HandS.Words
import HandS.More
import HandS.Head2
import KE.KNestM
import HandS.Call
import HandS.List
import HandS.Comp
import HandS.Ends
import HandS.Dict
import HandS.Iter
import HandS.Text
import HandS.WordsList
import HandS.WordsDict
import HandS.IsInst
import HandS.Zip
import HandS.Conv
import HandS.Walk
import HandS.Style
import HandS.TupAny
import HandS.TupMul
import HandS.EndBits
import HandS.Codes
import KE.GoesMore
import HandS.SortKw
import HandS.TupSets
import KE.KDictDisplayH
import KE.DatumOrd
import HandS.SortOrd
import HandS.Wide
import PyProof.StrLawsRepr
import HandS.Exc
import HandS.ExcOwn
import HandS.WordsExc
import HandS.ExcIs
import KE.GoesZip
import HandS.Strs
import KE.SortData
import KE.KDictPairs
import HandS.Lambda
import KE.DataMinKey
import HandS.EndTab
import KE.KNest
import KE.DataMinMax
import HandS.Defaults
import PyProof.Rows.StrMeet
import PyProof.EqKinds
import PyProof.NeKinds
import KE.DataCmp
import HandS.Star
import HandS.CallLocal
import HandS.TupLen
import HandS.SlotsOwn
import HandS.DictTup
import HandS.ListItems
import HandS.Deep
import HandS.Rev
import PySem.Challenge.RW_opencalls_k80_whole_calls_in_any_order
set_option Elab.async false
set_option linter.all false
set_option maxRecDepth 100000
/-! the objects that the top leaves, as far as they are asked for; the top's run -/
namespace OCR
open PySem PySem.Spec PyProof.Rows L2
def topR (i : Nat) : Stmt := PySem.Challenge.pw_opencalls_k80_whole_calls_in_any_order.main.body.getD i (.Pass ⟨0, 0, 0, 0⟩)
def K0 (P : PySem.Params) : PySem.W.Frag :=
  (nat_lit 2, ⟨.none, none, (.dict (List.toArray ([])) 0), #[]⟩) ::
  (nat_lit 3, ⟨(.type "dict"), none, (.dict (List.toArray (⟨PySem.PyData.keyHash P (PySem.Str.ofString "__name__"), .str (PySem.Str.ofString "__name__") 165, (.str (PySem.Str.ofString "law_opencalls_k80_whole_calls_in_any_order") 1188)⟩ :: ⟨PySem.PyData.keyHash P (PySem.Str.ofString "__doc__"), .str (PySem.Str.ofString "__doc__") 166, .none⟩ :: ⟨PySem.PyData.keyHash P (PySem.Str.ofString "__package__"), .str (PySem.Str.ofString "__package__") 167, .none⟩ :: ⟨PySem.PyData.keyHash P (PySem.Str.ofString "__loader__"), .str (PySem.Str.ofString "__loader__") 168, (.builtin "__main__.__loader__#opaque")⟩ :: ⟨PySem.PyData.keyHash P (PySem.Str.ofString "__spec__"), .str (PySem.Str.ofString "__spec__") 169, .none⟩ :: ⟨PySem.PyData.keyHash P (PySem.Str.ofString "__annotations__"), .str (PySem.Str.ofString "__annotations__") 170, (.ref 6)⟩ :: ⟨PySem.PyData.keyHash P (PySem.Str.ofString "__builtins__"), .str (PySem.Str.ofString "__builtins__") 171, (.ref 4)⟩ :: ⟨PySem.PyData.keyHash P (PySem.Str.ofString "__file__"), .str (PySem.Str.ofString "__file__") 173, (.str (PySem.Str.ofString "/claim/cut.py") 172)⟩ :: ⟨PySem.PyData.keyHash P (PySem.Str.ofString "__cached__"), .str (PySem.Str.ofString "__cached__") 174, .none⟩ :: ⟨PySem.PyData.keyHash P (PySem.Str.ofString "_wall"), .str (PySem.Str.ofString "_wall") 193, (.ref 21)⟩ :: ⟨PySem.PyData.keyHash P (PySem.Str.ofString "CallError"), .str (PySem.Str.ofString "CallError") 213, (.ref 31)⟩ :: ⟨PySem.PyData.keyHash P (PySem.Str.ofString "NoRow"), .str (PySem.Str.ofString "NoRow") 229, (.ref 44)⟩ :: ⟨PySem.PyData.keyHash P (PySem.Str.ofString "NotKnown"), .str (PySem.Str.ofString "NotKnown") 254, (.ref 63)⟩ :: ⟨PySem.PyData.keyHash P (PySem.Str.ofString "NoGroup"), .str (PySem.Str.ofString "NoGroup") 270, (.ref 75)⟩ :: ⟨PySem.PyData.keyHash P (PySem.Str.ofString "Full"), .str (PySem.Str.ofString "Full") 286, (.ref 87)⟩ :: ⟨PySem.PyData.keyHash P (PySem.Str.ofString "NoPlace"), .str (PySem.Str.ofString "NoPlace") 311, (.ref 106)⟩ :: ⟨PySem.PyData.keyHash P (PySem.Str.ofString "NoTurn"), .str (PySem.Str.ofString "NoTurn") 327, (.ref 118)⟩ :: ⟨PySem.PyData.keyHash P (PySem.Str.ofString "NoName"), .str (PySem.Str.ofString "NoName") 352, (.ref 137)⟩ :: ⟨PySem.PyData.keyHash P (PySem.Str.ofString "Taken"), .str (PySem.Str.ofString "Taken") 377, (.ref 156)⟩ :: ⟨PySem.PyData.keyHash P (PySem.Str.ofString "Few"), .str (PySem.Str.ofString "Few") 393, (.ref 168)⟩ :: ⟨PySem.PyData.keyHash P (PySem.Str.ofString "NothingBack"), .str (PySem.Str.ofString "NothingBack") 409, (.ref 180)⟩ :: ⟨PySem.PyData.keyHash P (PySem.Str.ofString "Long"), .str (PySem.Str.ofString "Long") 425, (.ref 192)⟩ :: ⟨PySem.PyData.keyHash P (PySem.Str.ofString "Busy"), .str (PySem.Str.ofString "Busy") 441, (.ref 204)⟩ :: ⟨PySem.PyData.keyHash P (PySem.Str.ofString "NoHand"), .str (PySem.Str.ofString "NoHand") 468, (.ref 223)⟩ :: ⟨PySem.PyData.keyHash P (PySem.Str.ofString "NoMoment"), .str (PySem.Str.ofString "NoMoment") 495, (.ref 243)⟩ :: ⟨PySem.PyData.keyHash P (PySem.Str.ofString "LETTERS"), .str (PySem.Str.ofString "LETTERS") 499, (.str (PySem.Str.ofString "abcdefghijklmnopqrstuvwxyz") 498)⟩ :: ⟨PySem.PyData.keyHash P (PySem.Str.ofString "is_name"), .str (PySem.Str.ofString "is_name") 505, (.ref 251)⟩ :: ⟨PySem.PyData.keyHash P (PySem.Str.ofString "is_rising"), .str (PySem.Str.ofString "is_rising") 511, (.ref 256)⟩ :: ⟨PySem.PyData.keyHash P (PySem.Str.ofString "are_names"), .str (PySem.Str.ofString "are_names") 517, (.ref 261)⟩ :: ⟨PySem.PyData.keyHash P (PySem.Str.ofString "is_number"), .str (PySem.Str.ofString "is_number") 526, (.ref 268)⟩ :: ⟨PySem.PyData.keyHash P (PySem.Str.ofString "is_rest"), .str (PySem.Str.ofString "is_rest") 534, (.ref 275)⟩ :: ⟨PySem.PyData.keyHash P (PySem.Str.ofString "contrary"), .str (PySem.Str.ofString "contrary") 543, (.ref 282)⟩ :: ⟨PySem.PyData.keyHash P (PySem.Str.ofString "is_row"), .str (PySem.Str.ofString "is_row") 551, (.ref 287)⟩ :: ⟨PySem.PyData.keyHash P (PySem.Str.ofString "added"), .str (PySem.Str.ofString "added") 557, (.ref 292)⟩ :: ⟨PySem.PyData.keyHash P (PySem.Str.ofString "times"), .str (PySem.Str.ofString "times") 563, (.ref 297)⟩ :: ⟨PySem.PyData.keyHash P (PySem.Str.ofString "check_hand"), .str (PySem.Str.ofString "check_hand") 573, (.ref 304)⟩ :: ⟨PySem.PyData.keyHash P (PySem.Str.ofString "check_hands"), .str (PySem.Str.ofString "check_hands") 583, (.ref 311)⟩ :: ⟨PySem.PyData.keyHash P (PySem.Str.ofString "check_row"), .str (PySem.Str.ofString "check_row") 592, (.ref 318)⟩ :: ⟨PySem.PyData.keyHash P (PySem.Str.ofString "is_noughts"), .str (PySem.Str.ofString "is_noughts") 600, (.ref 323)⟩ :: ⟨PySem.PyData.keyHash P (PySem.Str.ofString "first_place"), .str (PySem.Str.ofString "first_place") 609, (.ref 330)⟩ :: ⟨PySem.PyData.keyHash P (PySem.Str.ofString "cleared"), .str (PySem.Str.ofString "cleared") 619, (.ref 337)⟩ :: ⟨PySem.PyData.keyHash P (PySem.Str.ofString "left_of"), .str (PySem.Str.ofString "left_of") 629, (.ref 344)⟩ :: ⟨PySem.PyData.keyHash P (PySem.Str.ofString "widened"), .str (PySem.Str.ofString "widened") 635, (.ref 349)⟩ :: ⟨PySem.PyData.keyHash P (PySem.Str.ofString "room_of"), .str (PySem.Str.ofString "room_of") 646, (.ref 356)⟩ :: ⟨PySem.PyData.keyHash P (PySem.Str.ofString "within"), .str (PySem.Str.ofString "within") 655, (.ref 363)⟩ :: ⟨PySem.PyData.keyHash P (PySem.Str.ofString "names_of"), .str (PySem.Str.ofString "names_of") 663, (.ref 368)⟩ :: ⟨PySem.PyData.keyHash P (PySem.Str.ofString "room_in"), .str (PySem.Str.ofString "room_in") 678, (.ref 375)⟩ :: ⟨PySem.PyData.keyHash P (PySem.Str.ofString "behind"), .str (PySem.Str.ofString "behind") 684, (.ref 380)⟩ :: ⟨PySem.PyData.keyHash P (PySem.Str.ofString "led"), .str (PySem.Str.ofString "led") 698, (.ref 387)⟩ :: ⟨PySem.PyData.keyHash P (PySem.Str.ofString "needed"), .str (PySem.Str.ofString "needed") 713, (.ref 394)⟩ :: ⟨PySem.PyData.keyHash P (PySem.Str.ofString "Moment"), .str (PySem.Str.ofString "Moment") 750, (.ref 411)⟩ :: ⟨PySem.PyData.keyHash P (PySem.Str.ofString "names_at"), .str (PySem.Str.ofString "names_at") 756, (.ref 420)⟩ :: ⟨PySem.PyData.keyHash P (PySem.Str.ofString "heard_at"), .str (PySem.Str.ofString "heard_at") 767, (.ref 427)⟩ :: ⟨PySem.PyData.keyHash P (PySem.Str.ofString "known_at"), .str (PySem.Str.ofString "known_at") 775, (.ref 434)⟩ :: ⟨PySem.PyData.keyHash P (PySem.Str.ofString "stand_at"), .str (PySem.Str.ofString "stand_at") 781, (.ref 439)⟩ :: ⟨PySem.PyData.keyHash P (PySem.Str.ofString "gained"), .str (PySem.Str.ofString "gained") 792, (.ref 446)⟩ :: ⟨PySem.PyData.keyHash P (PySem.Str.ofString "are_first_rows"), .str (PySem.Str.ofString "are_first_rows") 800, (.ref 451)⟩ :: ⟨PySem.PyData.keyHash P (PySem.Str.ofString "after_call"), .str (PySem.Str.ofString "after_call") 806, (.ref 456)⟩ :: ⟨PySem.PyData.keyHash P (PySem.Str.ofString "after_whisper"), .str (PySem.Str.ofString "after_whisper") 812, (.ref 461)⟩ :: ⟨PySem.PyData.keyHash P (PySem.Str.ofString "after_meet"), .str (PySem.Str.ofString "after_meet") 818, (.ref 466)⟩ :: ⟨PySem.PyData.keyHash P (PySem.Str.ofString "news"), .str (PySem.Str.ofString "news") 824, (.ref 471)⟩ :: ⟨PySem.PyData.keyHash P (PySem.Str.ofString "after_hide"), .str (PySem.Str.ofString "after_hide") 830, (.ref 476)⟩ :: ⟨PySem.PyData.keyHash P (PySem.Str.ofString "longer"), .str (PySem.Str.ofString "longer") 836, (.ref 481)⟩ :: ⟨PySem.PyData.keyHash P (PySem.Str.ofString "after_change"), .str (PySem.Str.ofString "after_change") 842, (.ref 486)⟩ :: ⟨PySem.PyData.keyHash P (PySem.Str.ofString "all_led"), .str (PySem.Str.ofString "all_led") 848, (.ref 491)⟩ :: ⟨PySem.PyData.keyHash P (PySem.Str.ofString "after_come"), .str (PySem.Str.ofString "after_come") 858, (.ref 498)⟩ :: ⟨PySem.PyData.keyHash P (PySem.Str.ofString "after_go"), .str (PySem.Str.ofString "after_go") 864, (.ref 503)⟩ :: ⟨PySem.PyData.keyHash P (PySem.Str.ofString "STEPS"), .str (PySem.Str.ofString "STEPS") 879, (.ref 504)⟩ :: ⟨PySem.PyData.keyHash P (PySem.Str.ofString "after"), .str (PySem.Str.ofString "after") 889, (.ref 511)⟩ :: ⟨PySem.PyData.keyHash P (PySem.Str.ofString "DEEDS"), .str (PySem.Str.ofString "DEEDS") 893, (.int (60) 892)⟩ :: ⟨PySem.PyData.keyHash P (PySem.Str.ofString "Book"), .str (PySem.Str.ofString "Book") 1187, (.ref 744)⟩ :: ⟨PySem.PyData.keyHash P (PySem.Str.ofString "_law_deck"), .str (PySem.Str.ofString "_law_deck") 1195, (.ref 753)⟩ :: ⟨PySem.PyData.keyHash P (PySem.Str.ofString "_law_draw"), .str (PySem.Str.ofString "_law_draw") 1205, (.ref 760)⟩ :: ⟨PySem.PyData.keyHash P (PySem.Str.ofString "_law_prime"), .str (PySem.Str.ofString "_law_prime") 1212, (.ref 767)⟩ :: ⟨PySem.PyData.keyHash P (PySem.Str.ofString "_law_row"), .str (PySem.Str.ofString "_law_row") 1218, (.ref 772)⟩ :: ⟨PySem.PyData.keyHash P (PySem.Str.ofString "_law_plus"), .str (PySem.Str.ofString "_law_plus") 1224, (.ref 777)⟩ :: ⟨PySem.PyData.keyHash P (PySem.Str.ofString "_law_mixed"), .str (PySem.Str.ofString "_law_mixed") 1236, (.ref 784)⟩ :: ⟨PySem.PyData.keyHash P (PySem.Str.ofString "_law_rows"), .str (PySem.Str.ofString "_law_rows") 1249, (.ref 791)⟩ :: ⟨PySem.PyData.keyHash P (PySem.Str.ofString "_law_contrary"), .str (PySem.Str.ofString "_law_contrary") 1255, (.ref 796)⟩ :: ⟨PySem.PyData.keyHash P (PySem.Str.ofString "_law_less"), .str (PySem.Str.ofString "_law_less") 1261, (.ref 801)⟩ :: ⟨PySem.PyData.keyHash P (PySem.Str.ofString "_law_plain"), .str (PySem.Str.ofString "_law_plain") 1267, (.ref 806)⟩ :: ⟨PySem.PyData.keyHash P (PySem.Str.ofString "_law_turned"), .str (PySem.Str.ofString "_law_turned") 1273, (.ref 811)⟩ :: ⟨PySem.PyData.keyHash P (PySem.Str.ofString "_law_names"), .str (PySem.Str.ofString "_law_names") 1279, (.ref 816)⟩ :: ⟨PySem.PyData.keyHash P (PySem.Str.ofString "_law_stand"), .str (PySem.Str.ofString "_law_stand") 1295, (.ref 823)⟩ :: ⟨PySem.PyData.keyHash P (PySem.Str.ofString "_law_has"), .str (PySem.Str.ofString "_law_has") 1305, (.ref 830)⟩ :: ⟨PySem.PyData.keyHash P (PySem.Str.ofString "_law_calls"), .str (PySem.Str.ofString "_law_calls") 1321, (.ref 837)⟩ :: ⟨PySem.PyData.keyHash P (PySem.Str.ofString "_law_callers"), .str (PySem.Str.ofString "_law_callers") 1327, (.ref 842)⟩ :: ⟨PySem.PyData.keyHash P (PySem.Str.ofString "_law_otherwise"), .str (PySem.Str.ofString "_law_otherwise") 1345, (.ref 849)⟩ :: ⟨PySem.PyData.keyHash P (PySem.Str.ofString "_law_behind"), .str (PySem.Str.ofString "_law_behind") 1355, (.ref 856)⟩ :: ⟨PySem.PyData.keyHash P (PySem.Str.ofString "_law_due"), .str (PySem.Str.ofString "_law_due") 1361, (.ref 861)⟩ :: ⟨PySem.PyData.keyHash P (PySem.Str.ofString "_law_learned"), .str (PySem.Str.ofString "_law_learned") 1367, (.ref 866)⟩ :: ⟨PySem.PyData.keyHash P (PySem.Str.ofString "law"), .str (PySem.Str.ofString "law") 1383, (.ref 873)⟩ :: [])) 92), #[]⟩) ::
  (nat_lit 30, ⟨(.type "dict"), none, (.dict (List.toArray (⟨PySem.PyData.keyHash P (PySem.Str.ofString "__module__"), .str (PySem.Str.ofString "__module__") 203, (.str (PySem.Str.ofString "opencalls.errors") 194)⟩ :: ⟨PySem.PyData.keyHash P (PySem.Str.ofString "__firstlineno__"), .str (PySem.Str.ofString "__firstlineno__") 207, (.int (5) 206)⟩ :: ⟨PySem.PyData.keyHash P (PySem.Str.ofString "__static_attributes__"), .str (PySem.Str.ofString "__static_attributes__") 208, (.ref 29)⟩ :: ⟨PySem.PyData.keyHash P (PySem.Str.ofString "__weakref__"), .str (PySem.Str.ofString "__weakref__") 210, (.ref 32)⟩ :: ⟨PySem.PyData.keyHash P (PySem.Str.ofString "__doc__"), .str (PySem.Str.ofString "__doc__") 211, .none⟩ :: [])) 3), #[]⟩) ::
  (nat_lit 31, ⟨(.type "type"), none, (.cls { name := (PySem.Str.ofString "CallError"), bases := [(.type "ValueError")], mro := [(.ref 31), (.type "ValueError"), (.type "Exception"), (.type "BaseException"), (.type "object")], ns := 30, qualname := (PySem.Str.ofString "CallError"), hasDict := true, slotNames := [], subclasses := [(.ref 44), (.ref 63), (.ref 75), (.ref 87), (.ref 106), (.ref 118), (.ref 137), (.ref 156), (.ref 168), (.ref 180), (.ref 192), (.ref 204)], abstract := false, collection := none, hasDel := false }), #[(some (.ref 22)), none, (some (.str (PySem.Str.ofString "CallError") 196)), (some (.str (PySem.Str.ofString "CallError") 204)), (some (.builtin "ValueError.__new__")), (some (.bool true))]⟩) ::
  (nat_lit 32, ⟨(.type "getset_descriptor"), none, (.fields #[(.str (PySem.Str.ofString "__weakref__") 209), (.ref 31), (.builtin "ExceptionGroup.__weakref__"), .none]), #[]⟩) ::
  (nat_lit 43, ⟨(.type "dict"), none, (.dict (List.toArray (⟨PySem.PyData.keyHash P (PySem.Str.ofString "__module__"), .str (PySem.Str.ofString "__module__") 221, (.str (PySem.Str.ofString "opencalls.errors") 194)⟩ :: ⟨PySem.PyData.keyHash P (PySem.Str.ofString "__firstlineno__"), .str (PySem.Str.ofString "__firstlineno__") 225, (.int (7) 224)⟩ :: ⟨PySem.PyData.keyHash P (PySem.Str.ofString "__static_attributes__"), .str (PySem.Str.ofString "__static_attributes__") 226, (.ref 42)⟩ :: ⟨PySem.PyData.keyHash P (PySem.Str.ofString "__doc__"), .str (PySem.Str.ofString "__doc__") 227, .none⟩ :: [])) 2), #[]⟩) ::
  (nat_lit 44, ⟨(.type "type"), none, (.cls { name := (PySem.Str.ofString "NoRow"), bases := [(.ref 31)], mro := [(.ref 44), (.ref 31), (.type "ValueError"), (.type "Exception"), (.type "BaseException"), (.type "object")], ns := 43, qualname := (PySem.Str.ofString "NoRow"), hasDict := true, slotNames := [], subclasses := [], abstract := false, collection := none, hasDel := false }), #[(some (.ref 35)), none, (some (.str (PySem.Str.ofString "NoRow") 214)), (some (.str (PySem.Str.ofString "NoRow") 222)), (some (.builtin "ValueError.__new__")), (some (.bool true))]⟩) ::
  (nat_lit 62, ⟨(.type "dict"), none, (.dict (List.toArray (⟨PySem.PyData.keyHash P (PySem.Str.ofString "__module__"), .str (PySem.Str.ofString "__module__") 237, (.str (PySem.Str.ofString "opencalls.errors") 194)⟩ :: ⟨PySem.PyData.keyHash P (PySem.Str.ofString "__firstlineno__"), .str (PySem.Str.ofString "__firstlineno__") 241, (.int (9) 240)⟩ :: ⟨PySem.PyData.keyHash P (PySem.Str.ofString "__init__"), .str (PySem.Str.ofString "__init__") 249, (.ref 60)⟩ :: ⟨PySem.PyData.keyHash P (PySem.Str.ofString "__static_attributes__"), .str (PySem.Str.ofString "__static_attributes__") 251, (.ref 61)⟩ :: ⟨PySem.PyData.keyHash P (PySem.Str.ofString "__doc__"), .str (PySem.Str.ofString "__doc__") 252, .none⟩ :: [])) 2), #[]⟩) ::
  (nat_lit 63, ⟨(.type "type"), none, (.cls { name := (PySem.Str.ofString "NotKnown"), bases := [(.ref 31)], mro := [(.ref 63), (.ref 31), (.type "ValueError"), (.type "Exception"), (.type "BaseException"), (.type "object")], ns := 62, qualname := (PySem.Str.ofString "NotKnown"), hasDict := true, slotNames := [], subclasses := [], abstract := false, collection := none, hasDel := false }), #[(some (.ref 47)), none, (some (.str (PySem.Str.ofString "NotKnown") 230)), (some (.str (PySem.Str.ofString "NotKnown") 238)), (some (.builtin "ValueError.__new__")), (some (.bool true))]⟩) ::
  (nat_lit 74, ⟨(.type "dict"), none, (.dict (List.toArray (⟨PySem.PyData.keyHash P (PySem.Str.ofString "__module__"), .str (PySem.Str.ofString "__module__") 262, (.str (PySem.Str.ofString "opencalls.errors") 194)⟩ :: ⟨PySem.PyData.keyHash P (PySem.Str.ofString "__firstlineno__"), .str (PySem.Str.ofString "__firstlineno__") 266, (.int (13) 265)⟩ :: ⟨PySem.PyData.keyHash P (PySem.Str.ofString "__static_attributes__"), .str (PySem.Str.ofString "__static_attributes__") 267, (.ref 73)⟩ :: ⟨PySem.PyData.keyHash P (PySem.Str.ofString "__doc__"), .str (PySem.Str.ofString "__doc__") 268, .none⟩ :: [])) 2), #[]⟩) ::
  (nat_lit 75, ⟨(.type "type"), none, (.cls { name := (PySem.Str.ofString "NoGroup"), bases := [(.ref 31)], mro := [(.ref 75), (.ref 31), (.type "ValueError"), (.type "Exception"), (.type "BaseException"), (.type "object")], ns := 74, qualname := (PySem.Str.ofString "NoGroup"), hasDict := true, slotNames := [], subclasses := [], abstract := false, collection := none, hasDel := false }), #[(some (.ref 66)), none, (some (.str (PySem.Str.ofString "NoGroup") 255)), (some (.str (PySem.Str.ofString "NoGroup") 263)), (some (.builtin "ValueError.__new__")), (some (.bool true))]⟩) ::
  (nat_lit 86, ⟨(.type "dict"), none, (.dict (List.toArray (⟨PySem.PyData.keyHash P (PySem.Str.ofString "__module__"), .str (PySem.Str.ofString "__module__") 278, (.str (PySem.Str.ofString "opencalls.errors") 194)⟩ :: ⟨PySem.PyData.keyHash P (PySem.Str.ofString "__firstlineno__"), .str (PySem.Str.ofString "__firstlineno__") 282, (.int (15) 281)⟩ :: ⟨PySem.PyData.keyHash P (PySem.Str.ofString "__static_attributes__"), .str (PySem.Str.ofString "__static_attributes__") 283, (.ref 85)⟩ :: ⟨PySem.PyData.keyHash P (PySem.Str.ofString "__doc__"), .str (PySem.Str.ofString "__doc__") 284, .none⟩ :: [])) 2), #[]⟩) ::
  (nat_lit 87, ⟨(.type "type"), none, (.cls { name := (PySem.Str.ofString "Full"), bases := [(.ref 31)], mro := [(.ref 87), (.ref 31), (.type "ValueError"), (.type "Exception"), (.type "BaseException"), (.type "object")], ns := 86, qualname := (PySem.Str.ofString "Full"), hasDict := true, slotNames := [], subclasses := [], abstract := false, collection := none, hasDel := false }), #[(some (.ref 78)), none, (some (.str (PySem.Str.ofString "Full") 271)), (some (.str (PySem.Str.ofString "Full") 279)), (some (.builtin "ValueError.__new__")), (some (.bool true))]⟩) ::
  (nat_lit 105, ⟨(.type "dict"), none, (.dict (List.toArray (⟨PySem.PyData.keyHash P (PySem.Str.ofString "__module__"), .str (PySem.Str.ofString "__module__") 294, (.str (PySem.Str.ofString "opencalls.errors") 194)⟩ :: ⟨PySem.PyData.keyHash P (PySem.Str.ofString "__firstlineno__"), .str (PySem.Str.ofString "__firstlineno__") 298, (.int (17) 297)⟩ :: ⟨PySem.PyData.keyHash P (PySem.Str.ofString "__init__"), .str (PySem.Str.ofString "__init__") 306, (.ref 103)⟩ :: ⟨PySem.PyData.keyHash P (PySem.Str.ofString "__static_attributes__"), .str (PySem.Str.ofString "__static_attributes__") 308, (.ref 104)⟩ :: ⟨PySem.PyData.keyHash P (PySem.Str.ofString "__doc__"), .str (PySem.Str.ofString "__doc__") 309, .none⟩ :: [])) 2), #[]⟩) ::
  (nat_lit 106, ⟨(.type "type"), none, (.cls { name := (PySem.Str.ofString "NoPlace"), bases := [(.ref 31)], mro := [(.ref 106), (.ref 31), (.type "ValueError"), (.type "Exception"), (.type "BaseException"), (.type "object")], ns := 105, qualname := (PySem.Str.ofString "NoPlace"), hasDict := true, slotNames := [], subclasses := [], abstract := false, collection := none, hasDel := false }), #[(some (.ref 90)), none, (some (.str (PySem.Str.ofString "NoPlace") 287)), (some (.str (PySem.Str.ofString "NoPlace") 295)), (some (.builtin "ValueError.__new__")), (some (.bool true))]⟩) ::
  (nat_lit 117, ⟨(.type "dict"), none, (.dict (List.toArray (⟨PySem.PyData.keyHash P (PySem.Str.ofString "__module__"), .str (PySem.Str.ofString "__module__") 319, (.str (PySem.Str.ofString "opencalls.errors") 194)⟩ :: ⟨PySem.PyData.keyHash P (PySem.Str.ofString "__firstlineno__"), .str (PySem.Str.ofString "__firstlineno__") 323, (.int (21) 322)⟩ :: ⟨PySem.PyData.keyHash P (PySem.Str.ofString "__static_attributes__"), .str (PySem.Str.ofString "__static_attributes__") 324, (.ref 116)⟩ :: ⟨PySem.PyData.keyHash P (PySem.Str.ofString "__doc__"), .str (PySem.Str.ofString "__doc__") 325, .none⟩ :: [])) 2), #[]⟩) ::
  (nat_lit 118, ⟨(.type "type"), none, (.cls { name := (PySem.Str.ofString "NoTurn"), bases := [(.ref 31)], mro := [(.ref 118), (.ref 31), (.type "ValueError"), (.type "Exception"), (.type "BaseException"), (.type "object")], ns := 117, qualname := (PySem.Str.ofString "NoTurn"), hasDict := true, slotNames := [], subclasses := [], abstract := false, collection := none, hasDel := false }), #[(some (.ref 109)), none, (some (.str (PySem.Str.ofString "NoTurn") 312)), (some (.str (PySem.Str.ofString "NoTurn") 320)), (some (.builtin "ValueError.__new__")), (some (.bool true))]⟩) ::
  (nat_lit 136, ⟨(.type "dict"), none, (.dict (List.toArray (⟨PySem.PyData.keyHash P (PySem.Str.ofString "__module__"), .str (PySem.Str.ofString "__module__") 335, (.str (PySem.Str.ofString "opencalls.errors") 194)⟩ :: ⟨PySem.PyData.keyHash P (PySem.Str.ofString "__firstlineno__"), .str (PySem.Str.ofString "__firstlineno__") 339, (.int (23) 338)⟩ :: ⟨PySem.PyData.keyHash P (PySem.Str.ofString "__init__"), .str (PySem.Str.ofString "__init__") 347, (.ref 134)⟩ :: ⟨PySem.PyData.keyHash P (PySem.Str.ofString "__static_attributes__"), .str (PySem.Str.ofString "__static_attributes__") 349, (.ref 135)⟩ :: ⟨PySem.PyData.keyHash P (PySem.Str.ofString "__doc__"), .str (PySem.Str.ofString "__doc__") 350, .none⟩ :: [])) 2), #[]⟩) ::
  (nat_lit 137, ⟨(.type "type"), none, (.cls { name := (PySem.Str.ofString "NoName"), bases := [(.ref 31)], mro := [(.ref 137), (.ref 31), (.type "ValueError"), (.type "Exception"), (.type "BaseException"), (.type "object")], ns := 136, qualname := (PySem.Str.ofString "NoName"), hasDict := true, slotNames := [], subclasses := [], abstract := false, collection := none, hasDel := false }), #[(some (.ref 121)), none, (some (.str (PySem.Str.ofString "NoName") 328)), (some (.str (PySem.Str.ofString "NoName") 336)), (some (.builtin "ValueError.__new__")), (some (.bool true))]⟩) ::
  (nat_lit 155, ⟨(.type "dict"), none, (.dict (List.toArray (⟨PySem.PyData.keyHash P (PySem.Str.ofString "__module__"), .str (PySem.Str.ofString "__module__") 360, (.str (PySem.Str.ofString "opencalls.errors") 194)⟩ :: ⟨PySem.PyData.keyHash P (PySem.Str.ofString "__firstlineno__"), .str (PySem.Str.ofString "__firstlineno__") 364, (.int (27) 363)⟩ :: ⟨PySem.PyData.keyHash P (PySem.Str.ofString "__init__"), .str (PySem.Str.ofString "__init__") 372, (.ref 153)⟩ :: ⟨PySem.PyData.keyHash P (PySem.Str.ofString "__static_attributes__"), .str (PySem.Str.ofString "__static_attributes__") 374, (.ref 154)⟩ :: ⟨PySem.PyData.keyHash P (PySem.Str.ofString "__doc__"), .str (PySem.Str.ofString "__doc__") 375, .none⟩ :: [])) 2), #[]⟩) ::
  (nat_lit 156, ⟨(.type "type"), none, (.cls { name := (PySem.Str.ofString "Taken"), bases := [(.ref 31)], mro := [(.ref 156), (.ref 31), (.type "ValueError"), (.type "Exception"), (.type "BaseException"), (.type "object")], ns := 155, qualname := (PySem.Str.ofString "Taken"), hasDict := true, slotNames := [], subclasses := [], abstract := false, collection := none, hasDel := false }), #[(some (.ref 140)), none, (some (.str (PySem.Str.ofString "Taken") 353)), (some (.str (PySem.Str.ofString "Taken") 361)), (some (.builtin "ValueError.__new__")), (some (.bool true))]⟩) ::
  (nat_lit 167, ⟨(.type "dict"), none, (.dict (List.toArray (⟨PySem.PyData.keyHash P (PySem.Str.ofString "__module__"), .str (PySem.Str.ofString "__module__") 385, (.str (PySem.Str.ofString "opencalls.errors") 194)⟩ :: ⟨PySem.PyData.keyHash P (PySem.Str.ofString "__firstlineno__"), .str (PySem.Str.ofString "__firstlineno__") 389, (.int (31) 388)⟩ :: ⟨PySem.PyData.keyHash P (PySem.Str.ofString "__static_attributes__"), .str (PySem.Str.ofString "__static_attributes__") 390, (.ref 166)⟩ :: ⟨PySem.PyData.keyHash P (PySem.Str.ofString "__doc__"), .str (PySem.Str.ofString "__doc__") 391, .none⟩ :: [])) 2), #[]⟩) ::
  (nat_lit 168, ⟨(.type "type"), none, (.cls { name := (PySem.Str.ofString "Few"), bases := [(.ref 31)], mro := [(.ref 168), (.ref 31), (.type "ValueError"), (.type "Exception"), (.type "BaseException"), (.type "object")], ns := 167, qualname := (PySem.Str.ofString "Few"), hasDict := true, slotNames := [], subclasses := [], abstract := false, collection := none, hasDel := false }), #[(some (.ref 159)), none, (some (.str (PySem.Str.ofString "Few") 378)), (some (.str (PySem.Str.ofString "Few") 386)), (some (.builtin "ValueError.__new__")), (some (.bool true))]⟩) ::
  (nat_lit 179, ⟨(.type "dict"), none, (.dict (List.toArray (⟨PySem.PyData.keyHash P (PySem.Str.ofString "__module__"), .str (PySem.Str.ofString "__module__") 401, (.str (PySem.Str.ofString "opencalls.errors") 194)⟩ :: ⟨PySem.PyData.keyHash P (PySem.Str.ofString "__firstlineno__"), .str (PySem.Str.ofString "__firstlineno__") 405, (.int (33) 404)⟩ :: ⟨PySem.PyData.keyHash P (PySem.Str.ofString "__static_attributes__"), .str (PySem.Str.ofString "__static_attributes__") 406, (.ref 178)⟩ :: ⟨PySem.PyData.keyHash P (PySem.Str.ofString "__doc__"), .str (PySem.Str.ofString "__doc__") 407, .none⟩ :: [])) 2), #[]⟩) ::
  (nat_lit 180, ⟨(.type "type"), none, (.cls { name := (PySem.Str.ofString "NothingBack"), bases := [(.ref 31)], mro := [(.ref 180), (.ref 31), (.type "ValueError"), (.type "Exception"), (.type "BaseException"), (.type "object")], ns := 179, qualname := (PySem.Str.ofString "NothingBack"), hasDict := true, slotNames := [], subclasses := [], abstract := false, collection := none, hasDel := false }), #[(some (.ref 171)), none, (some (.str (PySem.Str.ofString "NothingBack") 394)), (some (.str (PySem.Str.ofString "NothingBack") 402)), (some (.builtin "ValueError.__new__")), (some (.bool true))]⟩) ::
  (nat_lit 191, ⟨(.type "dict"), none, (.dict (List.toArray (⟨PySem.PyData.keyHash P (PySem.Str.ofString "__module__"), .str (PySem.Str.ofString "__module__") 417, (.str (PySem.Str.ofString "opencalls.errors") 194)⟩ :: ⟨PySem.PyData.keyHash P (PySem.Str.ofString "__firstlineno__"), .str (PySem.Str.ofString "__firstlineno__") 421, (.int (35) 420)⟩ :: ⟨PySem.PyData.keyHash P (PySem.Str.ofString "__static_attributes__"), .str (PySem.Str.ofString "__static_attributes__") 422, (.ref 190)⟩ :: ⟨PySem.PyData.keyHash P (PySem.Str.ofString "__doc__"), .str (PySem.Str.ofString "__doc__") 423, .none⟩ :: [])) 2), #[]⟩) ::
  (nat_lit 192, ⟨(.type "type"), none, (.cls { name := (PySem.Str.ofString "Long"), bases := [(.ref 31)], mro := [(.ref 192), (.ref 31), (.type "ValueError"), (.type "Exception"), (.type "BaseException"), (.type "object")], ns := 191, qualname := (PySem.Str.ofString "Long"), hasDict := true, slotNames := [], subclasses := [], abstract := false, collection := none, hasDel := false }), #[(some (.ref 183)), none, (some (.str (PySem.Str.ofString "Long") 410)), (some (.str (PySem.Str.ofString "Long") 418)), (some (.builtin "ValueError.__new__")), (some (.bool true))]⟩) ::
  (nat_lit 203, ⟨(.type "dict"), none, (.dict (List.toArray (⟨PySem.PyData.keyHash P (PySem.Str.ofString "__module__"), .str (PySem.Str.ofString "__module__") 433, (.str (PySem.Str.ofString "opencalls.errors") 194)⟩ :: ⟨PySem.PyData.keyHash P (PySem.Str.ofString "__firstlineno__"), .str (PySem.Str.ofString "__firstlineno__") 437, (.int (37) 436)⟩ :: ⟨PySem.PyData.keyHash P (PySem.Str.ofString "__static_attributes__"), .str (PySem.Str.ofString "__static_attributes__") 438, (.ref 202)⟩ :: ⟨PySem.PyData.keyHash P (PySem.Str.ofString "__doc__"), .str (PySem.Str.ofString "__doc__") 439, .none⟩ :: [])) 2), #[]⟩) ::
  (nat_lit 204, ⟨(.type "type"), none, (.cls { name := (PySem.Str.ofString "Busy"), bases := [(.ref 31)], mro := [(.ref 204), (.ref 31), (.type "ValueError"), (.type "Exception"), (.type "BaseException"), (.type "object")], ns := 203, qualname := (PySem.Str.ofString "Busy"), hasDict := true, slotNames := [], subclasses := [], abstract := false, collection := none, hasDel := false }), #[(some (.ref 195)), none, (some (.str (PySem.Str.ofString "Busy") 426)), (some (.str (PySem.Str.ofString "Busy") 434)), (some (.builtin "ValueError.__new__")), (some (.bool true))]⟩) ::
  (nat_lit 222, ⟨(.type "dict"), none, (.dict (List.toArray (⟨PySem.PyData.keyHash P (PySem.Str.ofString "__module__"), .str (PySem.Str.ofString "__module__") 449, (.str (PySem.Str.ofString "opencalls.errors") 194)⟩ :: ⟨PySem.PyData.keyHash P (PySem.Str.ofString "__firstlineno__"), .str (PySem.Str.ofString "__firstlineno__") 453, (.int (39) 452)⟩ :: ⟨PySem.PyData.keyHash P (PySem.Str.ofString "__init__"), .str (PySem.Str.ofString "__init__") 461, (.ref 220)⟩ :: ⟨PySem.PyData.keyHash P (PySem.Str.ofString "__static_attributes__"), .str (PySem.Str.ofString "__static_attributes__") 463, (.ref 221)⟩ :: ⟨PySem.PyData.keyHash P (PySem.Str.ofString "__weakref__"), .str (PySem.Str.ofString "__weakref__") 465, (.ref 224)⟩ :: ⟨PySem.PyData.keyHash P (PySem.Str.ofString "__doc__"), .str (PySem.Str.ofString "__doc__") 466, .none⟩ :: [])) 3), #[]⟩) ::
  (nat_lit 223, ⟨(.type "type"), none, (.cls { name := (PySem.Str.ofString "NoHand"), bases := [(.type "LookupError")], mro := [(.ref 223), (.type "LookupError"), (.type "Exception"), (.type "BaseException"), (.type "object")], ns := 222, qualname := (PySem.Str.ofString "NoHand"), hasDict := true, slotNames := [], subclasses := [], abstract := false, collection := none, hasDel := false }), #[(some (.ref 207)), none, (some (.str (PySem.Str.ofString "NoHand") 442)), (some (.str (PySem.Str.ofString "NoHand") 450)), (some (.builtin "LookupError.__new__")), (some (.bool true))]⟩) ::
  (nat_lit 224, ⟨(.type "getset_descriptor"), none, (.fields #[(.str (PySem.Str.ofString "__weakref__") 464), (.ref 223), (.builtin "ExceptionGroup.__weakref__"), .none]), #[]⟩) ::
  (nat_lit 242, ⟨(.type "dict"), none, (.dict (List.toArray (⟨PySem.PyData.keyHash P (PySem.Str.ofString "__module__"), .str (PySem.Str.ofString "__module__") 476, (.str (PySem.Str.ofString "opencalls.errors") 194)⟩ :: ⟨PySem.PyData.keyHash P (PySem.Str.ofString "__firstlineno__"), .str (PySem.Str.ofString "__firstlineno__") 480, (.int (43) 479)⟩ :: ⟨PySem.PyData.keyHash P (PySem.Str.ofString "__init__"), .str (PySem.Str.ofString "__init__") 488, (.ref 240)⟩ :: ⟨PySem.PyData.keyHash P (PySem.Str.ofString "__static_attributes__"), .str (PySem.Str.ofString "__static_attributes__") 490, (.ref 241)⟩ :: ⟨PySem.PyData.keyHash P (PySem.Str.ofString "__weakref__"), .str (PySem.Str.ofString "__weakref__") 492, (.ref 244)⟩ :: ⟨PySem.PyData.keyHash P (PySem.Str.ofString "__doc__"), .str (PySem.Str.ofString "__doc__") 493, .none⟩ :: [])) 3), #[]⟩) ::
  (nat_lit 243, ⟨(.type "type"), none, (.cls { name := (PySem.Str.ofString "NoMoment"), bases := [(.type "LookupError")], mro := [(.ref 243), (.type "LookupError"), (.type "Exception"), (.type "BaseException"), (.type "object")], ns := 242, qualname := (PySem.Str.ofString "NoMoment"), hasDict := true, slotNames := [], subclasses := [], abstract := false, collection := none, hasDel := false }), #[(some (.ref 227)), none, (some (.str (PySem.Str.ofString "NoMoment") 469)), (some (.str (PySem.Str.ofString "NoMoment") 477)), (some (.builtin "LookupError.__new__")), (some (.bool true))]⟩) ::
  (nat_lit 244, ⟨(.type "getset_descriptor"), none, (.fields #[(.str (PySem.Str.ofString "__weakref__") 491), (.ref 243), (.builtin "ExceptionGroup.__weakref__"), .none]), #[]⟩) ::
  (nat_lit 250, ⟨(.type "code"), none, (.fields #[(.str (PySem.Str.ofString "is_name") 500), (.str (PySem.Str.ofString "is_name") 501), (.str (PySem.Str.ofString "/claim/cut.py") 502), (.int (49) 0), (.int (1) 0), (.int (0) 0), (.int (0) 0), (.int (3) 0), (.ref 247), (.bool true), (.int (181) 0), (.ref 248), .none, .none, .none, (.ref 249), (.int (503) 0), (.int (49) 0), (.str (PySem.Str.ofString "/claim/cut.py") 504)]), #[]⟩) ::
  (nat_lit 251, ⟨(.type "function"), none, (.func (PySem.W.fnOf (PySem.Str.ofString "is_name") (PySem.Str.ofString "is_name") (defArgs (topR 19)) (defBody (topR 19)) (defScope (topR 19)) .none .none .none (.str (PySem.Str.ofString "opencalls.names") 496) none (.ref 250) .none)), #[]⟩) ::
  (nat_lit 255, ⟨(.type "code"), none, (.fields #[(.str (PySem.Str.ofString "is_rising") 506), (.str (PySem.Str.ofString "is_rising") 507), (.str (PySem.Str.ofString "/claim/cut.py") 508), (.int (51) 0), (.int (1) 0), (.int (0) 0), (.int (0) 0), (.int (3) 0), (.ref 252), (.bool true), (.int (181) 0), (.ref 253), .none, .none, .none, (.ref 254), (.int (509) 0), (.int (51) 0), (.str (PySem.Str.ofString "/claim/cut.py") 510)]), #[]⟩) ::
  (nat_lit 256, ⟨(.type "function"), none, (.func (PySem.W.fnOf (PySem.Str.ofString "is_rising") (PySem.Str.ofString "is_rising") (defArgs (topR 20)) (defBody (topR 20)) (defScope (topR 20)) .none .none .none (.str (PySem.Str.ofString "opencalls.names") 496) none (.ref 255) .none)), #[]⟩) ::
  (nat_lit 260, ⟨(.type "code"), none, (.fields #[(.str (PySem.Str.ofString "are_names") 512), (.str (PySem.Str.ofString "are_names") 513), (.str (PySem.Str.ofString "/claim/cut.py") 514), (.int (53) 0), (.int (1) 0), (.int (0) 0), (.int (0) 0), (.int (3) 0), (.ref 257), (.bool true), (.int (181) 0), (.ref 258), .none, .none, .none, (.ref 259), (.int (515) 0), (.int (53) 0), (.str (PySem.Str.ofString "/claim/cut.py") 516)]), #[]⟩) ::
  (nat_lit 261, ⟨(.type "function"), none, (.func (PySem.W.fnOf (PySem.Str.ofString "are_names") (PySem.Str.ofString "are_names") (defArgs (topR 21)) (defBody (topR 21)) (defScope (topR 21)) .none .none .none (.str (PySem.Str.ofString "opencalls.names") 496) none (.ref 260) .none)), #[]⟩) ::
  (nat_lit 267, ⟨(.type "code"), none, (.fields #[(.str (PySem.Str.ofString "is_number") 520), (.str (PySem.Str.ofString "is_number") 521), (.str (PySem.Str.ofString "/claim/cut.py") 522), (.int (56) 0), (.int (1) 0), (.int (0) 0), (.int (0) 0), (.int (3) 0), (.ref 262), (.bool true), (.int (181) 0), (.ref 263), .none, (.ref 264), (.ref 265), (.ref 266), (.int (524) 0), (.int (56) 0), (.str (PySem.Str.ofString "/claim/cut.py") 525)]), #[]⟩) ::
  (nat_lit 268, ⟨(.type "function"), none, (.func (PySem.W.fnOf (PySem.Str.ofString "is_number") (PySem.Str.ofString "is_number") (defArgs (topR 23)) (defBody (topR 23)) (defScope (topR 23)) .none .none .none (.str (PySem.Str.ofString "opencalls.rests") 518) none (.ref 267) .none)), #[]⟩) ::
  (nat_lit 274, ⟨(.type "code"), none, (.fields #[(.str (PySem.Str.ofString "is_rest") 527), (.str (PySem.Str.ofString "is_rest") 528), (.str (PySem.Str.ofString "/claim/cut.py") 529), (.int (58) 0), (.int (2) 0), (.int (0) 0), (.int (0) 0), (.int (3) 0), (.ref 269), (.bool true), (.int (181) 0), (.ref 270), .none, (.ref 271), (.ref 272), (.ref 273), (.int (532) 0), (.int (58) 0), (.str (PySem.Str.ofString "/claim/cut.py") 533)]), #[]⟩) ::
  (nat_lit 275, ⟨(.type "function"), none, (.func (PySem.W.fnOf (PySem.Str.ofString "is_rest") (PySem.Str.ofString "is_rest") (defArgs (topR 24)) (defBody (topR 24)) (defScope (topR 24)) .none .none .none (.str (PySem.Str.ofString "opencalls.rests") 518) none (.ref 274) .none)), #[]⟩) ::
  (nat_lit 281, ⟨(.type "code"), none, (.fields #[(.str (PySem.Str.ofString "contrary") 535), (.str (PySem.Str.ofString "contrary") 536), (.str (PySem.Str.ofString "/claim/cut.py") 537), (.int (60) 0), (.int (2) 0), (.int (0) 0), (.int (0) 0), (.int (3) 0), (.ref 276), (.bool true), (.int (181) 0), (.ref 277), .none, (.ref 278), (.ref 279), (.ref 280), (.int (541) 0), (.int (60) 0), (.str (PySem.Str.ofString "/claim/cut.py") 542)]), #[]⟩) ::
  (nat_lit 282, ⟨(.type "function"), none, (.func (PySem.W.fnOf (PySem.Str.ofString "contrary") (PySem.Str.ofString "contrary") (defArgs (topR 25)) (defBody (topR 25)) (defScope (topR 25)) .none .none .none (.str (PySem.Str.ofString "opencalls.rests") 518) none (.ref 281) .none)), #[]⟩) ::
  (nat_lit 286, ⟨(.type "code"), none, (.fields #[(.str (PySem.Str.ofString "is_row") 546), (.str (PySem.Str.ofString "is_row") 547), (.str (PySem.Str.ofString "/claim/cut.py") 548), (.int (66) 0), (.int (3) 0), (.int (0) 0), (.int (0) 0), (.int (3) 0), (.ref 283), (.bool true), (.int (181) 0), (.ref 284), .none, .none, .none, (.ref 285), (.int (549) 0), (.int (66) 0), (.str (PySem.Str.ofString "/claim/cut.py") 550)]), #[]⟩) ::
  (nat_lit 287, ⟨(.type "function"), none, (.func (PySem.W.fnOf (PySem.Str.ofString "is_row") (PySem.Str.ofString "is_row") (defArgs (topR 27)) (defBody (topR 27)) (defScope (topR 27)) .none .none .none (.str (PySem.Str.ofString "opencalls.rows") 544) none (.ref 286) .none)), #[]⟩) ::
  (nat_lit 291, ⟨(.type "code"), none, (.fields #[(.str (PySem.Str.ofString "added") 552), (.str (PySem.Str.ofString "added") 553), (.str (PySem.Str.ofString "/claim/cut.py") 554), (.int (68) 0), (.int (3) 0), (.int (0) 0), (.int (0) 0), (.int (3) 0), (.ref 288), (.bool true), (.int (181) 0), (.ref 289), .none, .none, .none, (.ref 290), (.int (555) 0), (.int (68) 0), (.str (PySem.Str.ofString "/claim/cut.py") 556)]), #[]⟩) ::
  (nat_lit 292, ⟨(.type "function"), none, (.func (PySem.W.fnOf (PySem.Str.ofString "added") (PySem.Str.ofString "added") (defArgs (topR 28)) (defBody (topR 28)) (defScope (topR 28)) .none .none .none (.str (PySem.Str.ofString "opencalls.rows") 544) none (.ref 291) .none)), #[]⟩) ::
  (nat_lit 296, ⟨(.type "code"), none, (.fields #[(.str (PySem.Str.ofString "times") 558), (.str (PySem.Str.ofString "times") 559), (.str (PySem.Str.ofString "/claim/cut.py") 560), (.int (70) 0), (.int (3) 0), (.int (0) 0), (.int (0) 0), (.int (3) 0), (.ref 293), (.bool true), (.int (181) 0), (.ref 294), .none, .none, .none, (.ref 295), (.int (561) 0), (.int (70) 0), (.str (PySem.Str.ofString "/claim/cut.py") 562)]), #[]⟩) ::
  (nat_lit 297, ⟨(.type "function"), none, (.func (PySem.W.fnOf (PySem.Str.ofString "times") (PySem.Str.ofString "times") (defArgs (topR 29)) (defBody (topR 29)) (defScope (topR 29)) .none .none .none (.str (PySem.Str.ofString "opencalls.rows") 544) none (.ref 296) .none)), #[]⟩) ::
  (nat_lit 303, ⟨(.type "code"), none, (.fields #[(.str (PySem.Str.ofString "check_hand") 566), (.str (PySem.Str.ofString "check_hand") 567), (.str (PySem.Str.ofString "/claim/cut.py") 568), (.int (73) 0), (.int (2) 0), (.int (0) 0), (.int (0) 0), (.int (3) 0), (.ref 298), (.bool true), (.int (181) 0), (.ref 299), .none, (.ref 300), (.ref 301), (.ref 302), (.int (571) 0), (.int (73) 0), (.str (PySem.Str.ofString "/claim/cut.py") 572)]), #[]⟩) ::
  (nat_lit 304, ⟨(.type "function"), none, (.func (PySem.W.fnOf (PySem.Str.ofString "check_hand") (PySem.Str.ofString "check_hand") (defArgs (topR 31)) (defBody (topR 31)) (defScope (topR 31)) .none .none .none (.str (PySem.Str.ofString "opencalls.checks") 564) none (.ref 303) .none)), #[]⟩) ::
  (nat_lit 310, ⟨(.type "code"), none, (.fields #[(.str (PySem.Str.ofString "check_hands") 574), (.str (PySem.Str.ofString "check_hands") 575), (.str (PySem.Str.ofString "/claim/cut.py") 576), (.int (76) 0), (.int (3) 0), (.int (0) 0), (.int (0) 0), (.int (3) 0), (.ref 305), (.bool true), (.int (181) 0), (.ref 306), .none, (.ref 307), (.ref 308), (.ref 309), (.int (581) 0), (.int (76) 0), (.str (PySem.Str.ofString "/claim/cut.py") 582)]), #[]⟩) ::
  (nat_lit 311, ⟨(.type "function"), none, (.func (PySem.W.fnOf (PySem.Str.ofString "check_hands") (PySem.Str.ofString "check_hands") (defArgs (topR 32)) (defBody (topR 32)) (defScope (topR 32)) .none .none .none (.str (PySem.Str.ofString "opencalls.checks") 564) none (.ref 310) .none)), #[]⟩) ::
  (nat_lit 317, ⟨(.type "code"), none, (.fields #[(.str (PySem.Str.ofString "check_row") 584), (.str (PySem.Str.ofString "check_row") 585), (.str (PySem.Str.ofString "/claim/cut.py") 586), (.int (81) 0), (.int (3) 0), (.int (0) 0), (.int (0) 0), (.int (3) 0), (.ref 312), (.bool true), (.int (181) 0), (.ref 313), .none, (.ref 314), (.ref 315), (.ref 316), (.int (590) 0), (.int (81) 0), (.str (PySem.Str.ofString "/claim/cut.py") 591)]), #[]⟩) ::
  (nat_lit 318, ⟨(.type "function"), none, (.func (PySem.W.fnOf (PySem.Str.ofString "check_row") (PySem.Str.ofString "check_row") (defArgs (topR 33)) (defBody (topR 33)) (defScope (topR 33)) .none .none .none (.str (PySem.Str.ofString "opencalls.checks") 564) none (.ref 317) .none)), #[]⟩) ::
  (nat_lit 322, ⟨(.type "code"), none, (.fields #[(.str (PySem.Str.ofString "is_noughts") 595), (.str (PySem.Str.ofString "is_noughts") 596), (.str (PySem.Str.ofString "/claim/cut.py") 597), (.int (85) 0), (.int (1) 0), (.int (0) 0), (.int (0) 0), (.int (3) 0), (.ref 319), (.bool true), (.int (181) 0), (.ref 320), .none, .none, .none, (.ref 321), (.int (598) 0), (.int (85) 0), (.str (PySem.Str.ofString "/claim/cut.py") 599)]), #[]⟩) ::
  (nat_lit 323, ⟨(.type "function"), none, (.func (PySem.W.fnOf (PySem.Str.ofString "is_noughts") (PySem.Str.ofString "is_noughts") (defArgs (topR 35)) (defBody (topR 35)) (defScope (topR 35)) .none .none .none (.str (PySem.Str.ofString "opencalls.rooms") 593) none (.ref 322) .none)), #[]⟩) ::
  (nat_lit 329, ⟨(.type "code"), none, (.fields #[(.str (PySem.Str.ofString "first_place") 601), (.str (PySem.Str.ofString "first_place") 602), (.str (PySem.Str.ofString "/claim/cut.py") 603), (.int (87) 0), (.int (1) 0), (.int (0) 0), (.int (0) 0), (.int (3) 0), (.ref 324), (.bool true), (.int (181) 0), (.ref 325), .none, (.ref 326), (.ref 327), (.ref 328), (.int (607) 0), (.int (87) 0), (.str (PySem.Str.ofString "/claim/cut.py") 608)]), #[]⟩) ::
  (nat_lit 330, ⟨(.type "function"), none, (.func (PySem.W.fnOf (PySem.Str.ofString "first_place") (PySem.Str.ofString "first_place") (defArgs (topR 36)) (defBody (topR 36)) (defScope (topR 36)) .none .none .none (.str (PySem.Str.ofString "opencalls.rooms") 593) none (.ref 329) .none)), #[]⟩) ::
  (nat_lit 336, ⟨(.type "code"), none, (.fields #[(.str (PySem.Str.ofString "cleared") 610), (.str (PySem.Str.ofString "cleared") 611), (.str (PySem.Str.ofString "/claim/cut.py") 612), (.int (92) 0), (.int (3) 0), (.int (0) 0), (.int (0) 0), (.int (3) 0), (.ref 331), (.bool true), (.int (181) 0), (.ref 332), .none, (.ref 333), (.ref 334), (.ref 335), (.int (617) 0), (.int (92) 0), (.str (PySem.Str.ofString "/claim/cut.py") 618)]), #[]⟩) ::
  (nat_lit 337, ⟨(.type "function"), none, (.func (PySem.W.fnOf (PySem.Str.ofString "cleared") (PySem.Str.ofString "cleared") (defArgs (topR 37)) (defBody (topR 37)) (defScope (topR 37)) .none .none .none (.str (PySem.Str.ofString "opencalls.rooms") 593) none (.ref 336) .none)), #[]⟩) ::
  (nat_lit 343, ⟨(.type "code"), none, (.fields #[(.str (PySem.Str.ofString "left_of") 620), (.str (PySem.Str.ofString "left_of") 621), (.str (PySem.Str.ofString "/claim/cut.py") 622), (.int (97) 0), (.int (3) 0), (.int (0) 0), (.int (0) 0), (.int (3) 0), (.ref 338), (.bool true), (.int (181) 0), (.ref 339), .none, (.ref 340), (.ref 341), (.ref 342), (.int (627) 0), (.int (97) 0), (.str (PySem.Str.ofString "/claim/cut.py") 628)]), #[]⟩) ::
  (nat_lit 344, ⟨(.type "function"), none, (.func (PySem.W.fnOf (PySem.Str.ofString "left_of") (PySem.Str.ofString "left_of") (defArgs (topR 38)) (defBody (topR 38)) (defScope (topR 38)) .none .none .none (.str (PySem.Str.ofString "opencalls.rooms") 593) none (.ref 343) .none)), #[]⟩) ::
  (nat_lit 348, ⟨(.type "code"), none, (.fields #[(.str (PySem.Str.ofString "widened") 630), (.str (PySem.Str.ofString "widened") 631), (.str (PySem.Str.ofString "/claim/cut.py") 632), (.int (101) 0), (.int (3) 0), (.int (0) 0), (.int (0) 0), (.int (3) 0), (.ref 345), (.bool true), (.int (181) 0), (.ref 346), .none, .none, .none, (.ref 347), (.int (633) 0), (.int (101) 0), (.str (PySem.Str.ofString "/claim/cut.py") 634)]), #[]⟩) ::
  (nat_lit 349, ⟨(.type "function"), none, (.func (PySem.W.fnOf (PySem.Str.ofString "widened") (PySem.Str.ofString "widened") (defArgs (topR 39)) (defBody (topR 39)) (defScope (topR 39)) .none .none .none (.str (PySem.Str.ofString "opencalls.rooms") 593) none (.ref 348) .none)), #[]⟩) ::
  (nat_lit 355, ⟨(.type "code"), none, (.fields #[(.str (PySem.Str.ofString "room_of") 636), (.str (PySem.Str.ofString "room_of") 637), (.str (PySem.Str.ofString "/claim/cut.py") 638), (.int (108) 0), (.int (3) 0), (.int (0) 0), (.int (0) 0), (.int (3) 0), (.ref 350), (.bool true), (.int (181) 0), (.ref 351), .none, (.ref 352), (.ref 353), (.ref 354), (.int (644) 0), (.int (108) 0), (.str (PySem.Str.ofString "/claim/cut.py") 645)]), #[]⟩) ::
  (nat_lit 356, ⟨(.type "function"), none, (.func (PySem.W.fnOf (PySem.Str.ofString "room_of") (PySem.Str.ofString "room_of") (defArgs (topR 40)) (defBody (topR 40)) (defScope (topR 40)) .none .none .none (.str (PySem.Str.ofString "opencalls.rooms") 593) none (.ref 355) .none)), #[]⟩) ::
  (nat_lit 362, ⟨(.type "code"), none, (.fields #[(.str (PySem.Str.ofString "within") 647), (.str (PySem.Str.ofString "within") 648), (.str (PySem.Str.ofString "/claim/cut.py") 649), (.int (115) 0), (.int (3) 0), (.int (0) 0), (.int (0) 0), (.int (3) 0), (.ref 357), (.bool true), (.int (181) 0), (.ref 358), .none, (.ref 359), (.ref 360), (.ref 361), (.int (653) 0), (.int (115) 0), (.str (PySem.Str.ofString "/claim/cut.py") 654)]), #[]⟩) ::
  (nat_lit 363, ⟨(.type "function"), none, (.func (PySem.W.fnOf (PySem.Str.ofString "within") (PySem.Str.ofString "within") (defArgs (topR 41)) (defBody (topR 41)) (defScope (topR 41)) .none .none .none (.str (PySem.Str.ofString "opencalls.rooms") 593) none (.ref 362) .none)), #[]⟩) ::
  (nat_lit 367, ⟨(.type "code"), none, (.fields #[(.str (PySem.Str.ofString "names_of") 658), (.str (PySem.Str.ofString "names_of") 659), (.str (PySem.Str.ofString "/claim/cut.py") 660), (.int (118) 0), (.int (1) 0), (.int (0) 0), (.int (0) 0), (.int (3) 0), (.ref 364), (.bool true), (.int (181) 0), (.ref 365), .none, .none, .none, (.ref 366), (.int (661) 0), (.int (118) 0), (.str (PySem.Str.ofString "/claim/cut.py") 662)]), #[]⟩) ::
  (nat_lit 368, ⟨(.type "function"), none, (.func (PySem.W.fnOf (PySem.Str.ofString "names_of") (PySem.Str.ofString "names_of") (defArgs (topR 43)) (defBody (topR 43)) (defScope (topR 43)) .none .none .none (.str (PySem.Str.ofString "opencalls.stands") 656) none (.ref 367) .none)), #[]⟩) ::
  (nat_lit 374, ⟨(.type "code"), none, (.fields #[(.str (PySem.Str.ofString "room_in") 664), (.str (PySem.Str.ofString "room_in") 665), (.str (PySem.Str.ofString "/claim/cut.py") 666), (.int (120) 0), (.int (2) 0), (.int (0) 0), (.int (0) 0), (.int (3) 0), (.ref 369), (.bool true), (.int (181) 0), (.ref 370), .none, (.ref 371), (.ref 372), (.ref 373), (.int (676) 0), (.int (120) 0), (.str (PySem.Str.ofString "/claim/cut.py") 677)]), #[]⟩) ::
  (nat_lit 375, ⟨(.type "function"), none, (.func (PySem.W.fnOf (PySem.Str.ofString "room_in") (PySem.Str.ofString "room_in") (defArgs (topR 44)) (defBody (topR 44)) (defScope (topR 44)) .none .none .none (.str (PySem.Str.ofString "opencalls.stands") 656) none (.ref 374) .none)), #[]⟩) ::
  (nat_lit 379, ⟨(.type "code"), none, (.fields #[(.str (PySem.Str.ofString "behind") 679), (.str (PySem.Str.ofString "behind") 680), (.str (PySem.Str.ofString "/claim/cut.py") 681), (.int (127) 0), (.int (3) 0), (.int (0) 0), (.int (0) 0), (.int (3) 0), (.ref 376), (.bool true), (.int (181) 0), (.ref 377), .none, .none, .none, (.ref 378), (.int (682) 0), (.int (127) 0), (.str (PySem.Str.ofString "/claim/cut.py") 683)]), #[]⟩) ::
  (nat_lit 380, ⟨(.type "function"), none, (.func (PySem.W.fnOf (PySem.Str.ofString "behind") (PySem.Str.ofString "behind") (defArgs (topR 45)) (defBody (topR 45)) (defScope (topR 45)) .none .none .none (.str (PySem.Str.ofString "opencalls.stands") 656) none (.ref 379) .none)), #[]⟩) ::
  (nat_lit 407, ⟨(.type "code"), none, (.fields #[(.str (PySem.Str.ofString "__init__") 728), (.str (PySem.Str.ofString "Moment.__init__") 729), (.str (PySem.Str.ofString "/claim/cut.py") 730), (.int (153) 0), (.int (5) 0), (.int (0) 0), (.int (0) 0), (.int (3) 0), (.ref 402), (.bool true), (.int (181) 0), (.ref 403), .none, (.ref 404), (.ref 405), (.ref 406), (.int (736) 0), (.int (153) 0), (.str (PySem.Str.ofString "/claim/cut.py") 737)]), #[]⟩) ::
  (nat_lit 408, ⟨(.type "function"), none, (.func (PySem.W.fnOf (PySem.Str.ofString "__init__") (PySem.Str.ofString "Moment.__init__") (defArgs (inClass (topR 51) 0)) (defBody (inClass (topR 51) 0)) (defScope (inClass (topR 51) 0)) .none .none .none (.str (PySem.Str.ofString "opencalls.moments") 714) none (.ref 407) .none)), #[]⟩) ::
  (nat_lit 410, ⟨(.type "dict"), none, (.dict (List.toArray (⟨PySem.PyData.keyHash P (PySem.Str.ofString "__module__"), .str (PySem.Str.ofString "__module__") 723, (.str (PySem.Str.ofString "opencalls.moments") 714)⟩ :: ⟨PySem.PyData.keyHash P (PySem.Str.ofString "__firstlineno__"), .str (PySem.Str.ofString "__firstlineno__") 727, (.int (151) 726)⟩ :: ⟨PySem.PyData.keyHash P (PySem.Str.ofString "__init__"), .str (PySem.Str.ofString "__init__") 738, (.ref 408)⟩ :: ⟨PySem.PyData.keyHash P (PySem.Str.ofString "__static_attributes__"), .str (PySem.Str.ofString "__static_attributes__") 743, (.ref 409)⟩ :: ⟨PySem.PyData.keyHash P (PySem.Str.ofString "__dict__"), .str (PySem.Str.ofString "__dict__") 745, (.ref 412)⟩ :: ⟨PySem.PyData.keyHash P (PySem.Str.ofString "__weakref__"), .str (PySem.Str.ofString "__weakref__") 747, (.ref 413)⟩ :: ⟨PySem.PyData.keyHash P (PySem.Str.ofString "__doc__"), .str (PySem.Str.ofString "__doc__") 748, .none⟩ :: [])) 4), #[]⟩) ::
  (nat_lit 411, ⟨(.type "type"), none, (.cls { name := (PySem.Str.ofString "Moment"), bases := [(.type "object")], mro := [(.ref 411), (.type "object")], ns := 410, qualname := (PySem.Str.ofString "Moment"), hasDict := true, slotNames := [], subclasses := [], abstract := false, collection := none, hasDel := false }), #[none, none, (some (.str (PySem.Str.ofString "Moment") 716)), (some (.str (PySem.Str.ofString "Moment") 724)), (some (.builtin "object.__new__")), (some (.bool true))]⟩) ::
  (nat_lit 412, ⟨(.type "getset_descriptor"), none, (.fields #[(.str (PySem.Str.ofString "__dict__") 744), (.ref 411), (.builtin "function.__dict__"), (.builtin "function.__dict__#set")]), #[]⟩) ::
  (nat_lit 413, ⟨(.type "getset_descriptor"), none, (.fields #[(.str (PySem.Str.ofString "__weakref__") 746), (.ref 411), (.builtin "ExceptionGroup.__weakref__"), .none]), #[]⟩) ::
  (nat_lit 419, ⟨(.type "code"), none, (.fields #[(.str (PySem.Str.ofString "names_at") 751), (.str (PySem.Str.ofString "names_at") 752), (.str (PySem.Str.ofString "/claim/cut.py") 753), (.int (158) 0), (.int (1) 0), (.int (0) 0), (.int (0) 0), (.int (3) 0), (.ref 416), (.bool true), (.int (181) 0), (.ref 417), .none, .none, .none, (.ref 418), (.int (754) 0), (.int (158) 0), (.str (PySem.Str.ofString "/claim/cut.py") 755)]), #[]⟩) ::
  (nat_lit 420, ⟨(.type "function"), none, (.func (PySem.W.fnOf (PySem.Str.ofString "names_at") (PySem.Str.ofString "names_at") (defArgs (topR 52)) (defBody (topR 52)) (defScope (topR 52)) .none .none .none (.str (PySem.Str.ofString "opencalls.moments") 714) none (.ref 419) .none)), #[]⟩) ::
  (nat_lit 426, ⟨(.type "code"), none, (.fields #[(.str (PySem.Str.ofString "heard_at") 757), (.str (PySem.Str.ofString "heard_at") 758), (.str (PySem.Str.ofString "/claim/cut.py") 759), (.int (160) 0), (.int (2) 0), (.int (0) 0), (.int (0) 0), (.int (3) 0), (.ref 421), (.bool true), (.int (181) 0), (.ref 422), .none, (.ref 423), (.ref 424), (.ref 425), (.int (765) 0), (.int (160) 0), (.str (PySem.Str.ofString "/claim/cut.py") 766)]), #[]⟩) ::
  (nat_lit 427, ⟨(.type "function"), none, (.func (PySem.W.fnOf (PySem.Str.ofString "heard_at") (PySem.Str.ofString "heard_at") (defArgs (topR 53)) (defBody (topR 53)) (defScope (topR 53)) .none .none .none (.str (PySem.Str.ofString "opencalls.moments") 714) none (.ref 426) .none)), #[]⟩) ::
  (nat_lit 433, ⟨(.type "code"), none, (.fields #[(.str (PySem.Str.ofString "known_at") 768), (.str (PySem.Str.ofString "known_at") 769), (.str (PySem.Str.ofString "/claim/cut.py") 770), (.int (168) 0), (.int (2) 0), (.int (0) 0), (.int (0) 0), (.int (3) 0), (.ref 428), (.bool true), (.int (181) 0), (.ref 429), .none, (.ref 430), (.ref 431), (.ref 432), (.int (773) 0), (.int (168) 0), (.str (PySem.Str.ofString "/claim/cut.py") 774)]), #[]⟩) ::
  (nat_lit 434, ⟨(.type "function"), none, (.func (PySem.W.fnOf (PySem.Str.ofString "known_at") (PySem.Str.ofString "known_at") (defArgs (topR 54)) (defBody (topR 54)) (defScope (topR 54)) .none .none .none (.str (PySem.Str.ofString "opencalls.moments") 714) none (.ref 433) .none)), #[]⟩) ::
  (nat_lit 445, ⟨(.type "code"), none, (.fields #[(.str (PySem.Str.ofString "gained") 782), (.str (PySem.Str.ofString "gained") 783), (.str (PySem.Str.ofString "/claim/cut.py") 784), (.int (173) 0), (.int (2) 0), (.int (0) 0), (.int (0) 0), (.int (3) 0), (.ref 440), (.bool true), (.int (181) 0), (.ref 441), .none, (.ref 442), (.ref 443), (.ref 444), (.int (790) 0), (.int (173) 0), (.str (PySem.Str.ofString "/claim/cut.py") 791)]), #[]⟩) ::
  (nat_lit 446, ⟨(.type "function"), none, (.func (PySem.W.fnOf (PySem.Str.ofString "gained") (PySem.Str.ofString "gained") (defArgs (topR 56)) (defBody (topR 56)) (defScope (topR 56)) .none .none .none (.str (PySem.Str.ofString "opencalls.moments") 714) none (.ref 445) .none)), #[]⟩) ::
  (nat_lit 455, ⟨(.type "code"), none, (.fields #[(.str (PySem.Str.ofString "after_call") 801), (.str (PySem.Str.ofString "after_call") 802), (.str (PySem.Str.ofString "/claim/cut.py") 803), (.int (183) 0), (.int (3) 0), (.int (0) 0), (.int (0) 0), (.int (3) 0), (.ref 452), (.bool true), (.int (181) 0), (.ref 453), .none, .none, .none, (.ref 454), (.int (804) 0), (.int (183) 0), (.str (PySem.Str.ofString "/claim/cut.py") 805)]), #[]⟩) ::
  (nat_lit 456, ⟨(.type "function"), none, (.func (PySem.W.fnOf (PySem.Str.ofString "after_call") (PySem.Str.ofString "after_call") (defArgs (topR 59)) (defBody (topR 59)) (defScope (topR 59)) .none .none .none (.str (PySem.Str.ofString "opencalls.deeds") 793) none (.ref 455) .none)), #[]⟩) ::
  (nat_lit 460, ⟨(.type "code"), none, (.fields #[(.str (PySem.Str.ofString "after_whisper") 807), (.str (PySem.Str.ofString "after_whisper") 808), (.str (PySem.Str.ofString "/claim/cut.py") 809), (.int (190) 0), (.int (3) 0), (.int (0) 0), (.int (0) 0), (.int (3) 0), (.ref 457), (.bool true), (.int (181) 0), (.ref 458), .none, .none, .none, (.ref 459), (.int (810) 0), (.int (190) 0), (.str (PySem.Str.ofString "/claim/cut.py") 811)]), #[]⟩) ::
  (nat_lit 461, ⟨(.type "function"), none, (.func (PySem.W.fnOf (PySem.Str.ofString "after_whisper") (PySem.Str.ofString "after_whisper") (defArgs (topR 60)) (defBody (topR 60)) (defScope (topR 60)) .none .none .none (.str (PySem.Str.ofString "opencalls.deeds") 793) none (.ref 460) .none)), #[]⟩) ::
  (nat_lit 504, ⟨(.type "dict"), none, (.dict (List.toArray (⟨PySem.PyData.keyHash P (PySem.Str.ofString "call"), .str (PySem.Str.ofString "call") 865, (.ref 456)⟩ :: ⟨PySem.PyData.keyHash P (PySem.Str.ofString "whisper"), .str (PySem.Str.ofString "whisper") 866, (.ref 461)⟩ :: ⟨PySem.PyData.keyHash P (PySem.Str.ofString "meet"), .str (PySem.Str.ofString "meet") 867, (.ref 466)⟩ :: ⟨PySem.PyData.keyHash P (PySem.Str.ofString "hide"), .str (PySem.Str.ofString "hide") 868, (.ref 476)⟩ :: ⟨PySem.PyData.keyHash P (PySem.Str.ofString "change"), .str (PySem.Str.ofString "change") 869, (.ref 486)⟩ :: ⟨PySem.PyData.keyHash P (PySem.Str.ofString "come"), .str (PySem.Str.ofString "come") 870, (.ref 498)⟩ :: ⟨PySem.PyData.keyHash P (PySem.Str.ofString "go"), .str (PySem.Str.ofString "go") 871, (.ref 503)⟩ :: [])) 7), #[]⟩) ::
  (nat_lit 510, ⟨(.type "code"), none, (.fields #[(.str (PySem.Str.ofString "after") 880), (.str (PySem.Str.ofString "after") 881), (.str (PySem.Str.ofString "/claim/cut.py") 882), (.int (238) 0), (.int (2) 0), (.int (0) 0), (.int (0) 0), (.int (3) 0), (.ref 505), (.bool true), (.int (181) 0), (.ref 506), .none, (.ref 507), (.ref 508), (.ref 509), (.int (887) 0), (.int (238) 0), (.str (PySem.Str.ofString "/claim/cut.py") 888)]), #[]⟩) ::
  (nat_lit 511, ⟨(.type "function"), none, (.func (PySem.W.fnOf (PySem.Str.ofString "after") (PySem.Str.ofString "after") (defArgs (topR 70)) (defBody (topR 70)) (defScope (topR 70)) .none .none .none (.str (PySem.Str.ofString "opencalls.deeds") 793) none (.ref 510) .none)), #[]⟩) ::
  (nat_lit 524, ⟨(.type "code"), none, (.fields #[(.str (PySem.Str.ofString "__init__") 906), (.str (PySem.Str.ofString "Book.__init__") 907), (.str (PySem.Str.ofString "/claim/cut.py") 908), (.int (246) 0), (.int (4) 0), (.int (0) 0), (.int (0) 0), (.int (3) 0), (.ref 519), (.bool true), (.int (181) 0), (.ref 520), .none, (.ref 521), (.ref 522), (.ref 523), (.int (913) 0), (.int (246) 0), (.str (PySem.Str.ofString "/claim/cut.py") 914)]), #[]⟩) ::
  (nat_lit 525, ⟨(.type "function"), none, (.func (PySem.W.fnOf (PySem.Str.ofString "__init__") (PySem.Str.ofString "Book.__init__") (defArgs (inClass (topR 73) 0)) (defBody (inClass (topR 73) 0)) (defScope (inClass (topR 73) 0)) .none .none .none (.str (PySem.Str.ofString "opencalls.books") 890) none (.ref 524) .none)), #[]⟩) ::
  (nat_lit 538, ⟨(.type "code"), none, (.fields #[(.str (PySem.Str.ofString "__len__") 924), (.str (PySem.Str.ofString "Book.__len__") 925), (.str (PySem.Str.ofString "/claim/cut.py") 926), (.int (256) 0), (.int (1) 0), (.int (0) 0), (.int (0) 0), (.int (3) 0), (.ref 533), (.bool true), (.int (181) 0), (.ref 534), .none, (.ref 535), (.ref 536), (.ref 537), (.int (928) 0), (.int (256) 0), (.str (PySem.Str.ofString "/claim/cut.py") 929)]), #[]⟩) ::
  (nat_lit 539, ⟨(.type "function"), none, (.func (PySem.W.fnOf (PySem.Str.ofString "__len__") (PySem.Str.ofString "Book.__len__") (defArgs (inClass (topR 73) 2)) (defBody (inClass (topR 73) 2)) (defScope (inClass (topR 73) 2)) .none .none .none (.str (PySem.Str.ofString "opencalls.books") 890) none (.ref 538) .none)), #[]⟩) ::
  (nat_lit 552, ⟨(.type "code"), none, (.fields #[(.str (PySem.Str.ofString "now") 938), (.str (PySem.Str.ofString "Book.now") 939), (.str (PySem.Str.ofString "/claim/cut.py") 940), (.int (262) 0), (.int (1) 0), (.int (0) 0), (.int (0) 0), (.int (3) 0), (.ref 547), (.bool true), (.int (181) 0), (.ref 548), .none, (.ref 549), (.ref 550), (.ref 551), (.int (942) 0), (.int (262) 0), (.str (PySem.Str.ofString "/claim/cut.py") 943)]), #[]⟩) ::
  (nat_lit 553, ⟨(.type "function"), none, (.func (PySem.W.fnOf (PySem.Str.ofString "now") (PySem.Str.ofString "Book.now") (defArgs (inClass (topR 73) 4)) (defBody (inClass (topR 73) 4)) (defScope (inClass (topR 73) 4)) .none .none .none (.str (PySem.Str.ofString "opencalls.books") 890) none (.ref 552) .none)), #[]⟩) ::
  (nat_lit 559, ⟨(.type "code"), none, (.fields #[(.str (PySem.Str.ofString "refuse_amid") 945), (.str (PySem.Str.ofString "Book.refuse_amid") 946), (.str (PySem.Str.ofString "/claim/cut.py") 947), (.int (265) 0), (.int (1) 0), (.int (0) 0), (.int (0) 0), (.int (3) 0), (.ref 554), (.bool true), (.int (181) 0), (.ref 555), .none, (.ref 556), (.ref 557), (.ref 558), (.int (949) 0), (.int (265) 0), (.str (PySem.Str.ofString "/claim/cut.py") 950)]), #[]⟩) ::
  (nat_lit 560, ⟨(.type "function"), none, (.func (PySem.W.fnOf (PySem.Str.ofString "refuse_amid") (PySem.Str.ofString "Book.refuse_amid") (defArgs (inClass (topR 73) 5)) (defBody (inClass (topR 73) 5)) (defScope (inClass (topR 73) 5)) .none .none .none (.str (PySem.Str.ofString "opencalls.books") 890) none (.ref 559) .none)), #[]⟩) ::
  (nat_lit 566, ⟨(.type "code"), none, (.fields #[(.str (PySem.Str.ofString "perform") 952), (.str (PySem.Str.ofString "Book.perform") 953), (.str (PySem.Str.ofString "/claim/cut.py") 954), (.int (269) 0), (.int (2) 0), (.int (0) 0), (.int (0) 0), (.int (3) 0), (.ref 561), (.bool true), (.int (181) 0), (.ref 562), .none, (.ref 563), (.ref 564), (.ref 565), (.int (958) 0), (.int (269) 0), (.str (PySem.Str.ofString "/claim/cut.py") 959)]), #[]⟩) ::
  (nat_lit 567, ⟨(.type "function"), none, (.func (PySem.W.fnOf (PySem.Str.ofString "perform") (PySem.Str.ofString "Book.perform") (defArgs (inClass (topR 73) 6)) (defBody (inClass (topR 73) 6)) (defScope (inClass (topR 73) 6)) .none .none .none (.str (PySem.Str.ofString "opencalls.books") 890) none (.ref 566) .none)), #[]⟩) ::
  (nat_lit 573, ⟨(.type "code"), none, (.fields #[(.str (PySem.Str.ofString "call") 961), (.str (PySem.Str.ofString "Book.call") 962), (.str (PySem.Str.ofString "/claim/cut.py") 963), (.int (276) 0), (.int (3) 0), (.int (0) 0), (.int (0) 0), (.int (3) 0), (.ref 568), (.bool true), (.int (181) 0), (.ref 569), .none, (.ref 570), (.ref 571), (.ref 572), (.int (967) 0), (.int (276) 0), (.str (PySem.Str.ofString "/claim/cut.py") 968)]), #[]⟩) ::
  (nat_lit 574, ⟨(.type "function"), none, (.func (PySem.W.fnOf (PySem.Str.ofString "call") (PySem.Str.ofString "Book.call") (defArgs (inClass (topR 73) 7)) (defBody (inClass (topR 73) 7)) (defScope (inClass (topR 73) 7)) .none .none .none (.str (PySem.Str.ofString "opencalls.books") 890) none (.ref 573) .none)), #[]⟩) ::
  (nat_lit 624, ⟨(.type "dict"), none, (.dict (List.toArray (⟨PySem.PyData.keyHash P (PySem.Str.ofString "tell"), .str (PySem.Str.ofString "tell") 1027, .none⟩ :: [])) 1), #[]⟩) ::
  (nat_lit 660, ⟨(.type "dict"), none, (.dict (List.toArray (⟨PySem.PyData.keyHash P (PySem.Str.ofString "at"), .str (PySem.Str.ofString "at") 1072, .none⟩ :: [])) 1), #[]⟩) ::
  (nat_lit 668, ⟨(.type "dict"), none, (.dict (List.toArray (⟨PySem.PyData.keyHash P (PySem.Str.ofString "at"), .str (PySem.Str.ofString "at") 1081, .none⟩ :: [])) 1), #[]⟩) ::
  (nat_lit 676, ⟨(.type "dict"), none, (.dict (List.toArray (⟨PySem.PyData.keyHash P (PySem.Str.ofString "at"), .str (PySem.Str.ofString "at") 1091, .none⟩ :: [])) 1), #[]⟩) ::
  (nat_lit 684, ⟨(.type "dict"), none, (.dict (List.toArray (⟨PySem.PyData.keyHash P (PySem.Str.ofString "at"), .str (PySem.Str.ofString "at") 1101, .none⟩ :: [])) 1), #[]⟩) ::
  (nat_lit 692, ⟨(.type "dict"), none, (.dict (List.toArray (⟨PySem.PyData.keyHash P (PySem.Str.ofString "at"), .str (PySem.Str.ofString "at") 1111, .none⟩ :: [])) 1), #[]⟩) ::
  (nat_lit 700, ⟨(.type "dict"), none, (.dict (List.toArray (⟨PySem.PyData.keyHash P (PySem.Str.ofString "at"), .str (PySem.Str.ofString "at") 1123, .none⟩ :: [])) 1), #[]⟩) ::
  (nat_lit 713, ⟨(.type "code"), none, (.fields #[(.str (PySem.Str.ofString "learned") 1134), (.str (PySem.Str.ofString "Book.learned") 1135), (.str (PySem.Str.ofString "/claim/cut.py") 1136), (.int (352) 0), (.int (2) 0), (.int (0) 0), (.int (0) 0), (.int (3) 0), (.ref 708), (.bool true), (.int (181) 0), (.ref 709), .none, (.ref 710), (.ref 711), (.ref 712), (.int (1139) 0), (.int (352) 0), (.str (PySem.Str.ofString "/claim/cut.py") 1140)]), #[]⟩) ::
  (nat_lit 714, ⟨(.type "function"), none, (.func (PySem.W.fnOf (PySem.Str.ofString "learned") (PySem.Str.ofString "Book.learned") (defArgs (inClass (topR 73) 26)) (defBody (inClass (topR 73) 26)) (defScope (inClass (topR 73) 26)) .none .none .none (.str (PySem.Str.ofString "opencalls.books") 890) none (.ref 713) .none)), #[]⟩) ::
  (nat_lit 718, ⟨(.type "code"), none, (.fields #[(.str (PySem.Str.ofString "idle") 1142), (.str (PySem.Str.ofString "Book.idle") 1143), (.str (PySem.Str.ofString "/claim/cut.py") 1144), (.int (357) 0), (.int (1) 0), (.int (0) 0), (.int (0) 0), (.int (3) 0), (.ref 715), (.bool true), (.int (181) 0), (.ref 716), .none, .none, .none, (.ref 717), (.int (1145) 0), (.int (357) 0), (.str (PySem.Str.ofString "/claim/cut.py") 1146)]), #[]⟩) ::
  (nat_lit 719, ⟨(.type "function"), none, (.func (PySem.W.fnOf (PySem.Str.ofString "idle") (PySem.Str.ofString "Book.idle") (defArgs (inClass (topR 73) 27)) (defBody (inClass (topR 73) 27)) (defScope (inClass (topR 73) 27)) .none .none .none (.str (PySem.Str.ofString "opencalls.books") 890) none (.ref 718) .none)), #[]⟩) ::
  (nat_lit 725, ⟨(.type "code"), none, (.fields #[(.str (PySem.Str.ofString "is_idle") 1148), (.str (PySem.Str.ofString "Book.is_idle") 1149), (.str (PySem.Str.ofString "/claim/cut.py") 1150), (.int (360) 0), (.int (3) 0), (.int (0) 0), (.int (0) 0), (.int (3) 0), (.ref 720), (.bool true), (.int (181) 0), (.ref 721), .none, (.ref 722), (.ref 723), (.ref 724), (.int (1155) 0), (.int (360) 0), (.str (PySem.Str.ofString "/claim/cut.py") 1156)]), #[]⟩) ::
  (nat_lit 726, ⟨(.type "function"), none, (.func (PySem.W.fnOf (PySem.Str.ofString "is_idle") (PySem.Str.ofString "Book.is_idle") (defArgs (inClass (topR 73) 28)) (defBody (inClass (topR 73) 28)) (defScope (inClass (topR 73) 28)) .none .none .none (.str (PySem.Str.ofString "opencalls.books") 890) none (.ref 725) .none)), #[]⟩) ::
  (nat_lit 734, ⟨(.type "dict"), none, (.dict (List.toArray (⟨PySem.PyData.keyHash P (PySem.Str.ofString "at"), .str (PySem.Str.ofString "at") 1165, .none⟩ :: [])) 1), #[]⟩) ::
  (nat_lit 743, ⟨(.type "dict"), none, (.dict (List.toArray (⟨PySem.PyData.keyHash P (PySem.Str.ofString "__module__"), .str (PySem.Str.ofString "__module__") 901, (.str (PySem.Str.ofString "opencalls.books") 890)⟩ :: ⟨PySem.PyData.keyHash P (PySem.Str.ofString "__firstlineno__"), .str (PySem.Str.ofString "__firstlineno__") 905, (.int (244) 904)⟩ :: ⟨PySem.PyData.keyHash P (PySem.Str.ofString "__init__"), .str (PySem.Str.ofString "__init__") 915, (.ref 525)⟩ :: ⟨PySem.PyData.keyHash P (PySem.Str.ofString "__eq__"), .str (PySem.Str.ofString "__eq__") 923, (.ref 532)⟩ :: ⟨PySem.PyData.keyHash P (PySem.Str.ofString "__len__"), .str (PySem.Str.ofString "__len__") 930, (.ref 539)⟩ :: ⟨PySem.PyData.keyHash P (PySem.Str.ofString "__str__"), .str (PySem.Str.ofString "__str__") 937, (.ref 546)⟩ :: ⟨PySem.PyData.keyHash P (PySem.Str.ofString "now"), .str (PySem.Str.ofString "now") 944, (.ref 553)⟩ :: ⟨PySem.PyData.keyHash P (PySem.Str.ofString "refuse_amid"), .str (PySem.Str.ofString "refuse_amid") 951, (.ref 560)⟩ :: ⟨PySem.PyData.keyHash P (PySem.Str.ofString "perform"), .str (PySem.Str.ofString "perform") 960, (.ref 567)⟩ :: ⟨PySem.PyData.keyHash P (PySem.Str.ofString "call"), .str (PySem.Str.ofString "call") 969, (.ref 574)⟩ :: ⟨PySem.PyData.keyHash P (PySem.Str.ofString "whisper"), .str (PySem.Str.ofString "whisper") 978, (.ref 581)⟩ :: ⟨PySem.PyData.keyHash P (PySem.Str.ofString "meet"), .str (PySem.Str.ofString "meet") 986, (.ref 588)⟩ :: ⟨PySem.PyData.keyHash P (PySem.Str.ofString "hide"), .str (PySem.Str.ofString "hide") 993, (.ref 595)⟩ :: ⟨PySem.PyData.keyHash P (PySem.Str.ofString "change"), .str (PySem.Str.ofString "change") 1002, (.ref 602)⟩ :: ⟨PySem.PyData.keyHash P (PySem.Str.ofString "come"), .str (PySem.Str.ofString "come") 1011, (.ref 609)⟩ :: ⟨PySem.PyData.keyHash P (PySem.Str.ofString "go"), .str (PySem.Str.ofString "go") 1019, (.ref 616)⟩ :: ⟨PySem.PyData.keyHash P (PySem.Str.ofString "back"), .str (PySem.Str.ofString "back") 1026, (.ref 623)⟩ :: ⟨PySem.PyData.keyHash P (PySem.Str.ofString "tried"), .str (PySem.Str.ofString "tried") 1036, (.ref 631)⟩ :: ⟨PySem.PyData.keyHash P (PySem.Str.ofString "perform_all"), .str (PySem.Str.ofString "perform_all") 1045, (.ref 638)⟩ :: ⟨PySem.PyData.keyHash P (PySem.Str.ofString "log"), .str (PySem.Str.ofString "log") 1052, (.ref 645)⟩ :: ⟨PySem.PyData.keyHash P (PySem.Str.ofString "moment_at"), .str (PySem.Str.ofString "moment_at") 1060, (.ref 652)⟩ :: ⟨PySem.PyData.keyHash P (PySem.Str.ofString "moment_of"), .str (PySem.Str.ofString "moment_of") 1071, (.ref 659)⟩ :: ⟨PySem.PyData.keyHash P (PySem.Str.ofString "names"), .str (PySem.Str.ofString "names") 1080, (.ref 667)⟩ :: ⟨PySem.PyData.keyHash P (PySem.Str.ofString "heard"), .str (PySem.Str.ofString "heard") 1090, (.ref 675)⟩ :: ⟨PySem.PyData.keyHash P (PySem.Str.ofString "known"), .str (PySem.Str.ofString "known") 1100, (.ref 683)⟩ :: ⟨PySem.PyData.keyHash P (PySem.Str.ofString "common"), .str (PySem.Str.ofString "common") 1110, (.ref 691)⟩ :: ⟨PySem.PyData.keyHash P (PySem.Str.ofString "knows"), .str (PySem.Str.ofString "knows") 1122, (.ref 699)⟩ :: ⟨PySem.PyData.keyHash P (PySem.Str.ofString "why"), .str (PySem.Str.ofString "why") 1133, (.ref 707)⟩ :: ⟨PySem.PyData.keyHash P (PySem.Str.ofString "learned"), .str (PySem.Str.ofString "learned") 1141, (.ref 714)⟩ :: ⟨PySem.PyData.keyHash P (PySem.Str.ofString "idle"), .str (PySem.Str.ofString "idle") 1147, (.ref 719)⟩ :: ⟨PySem.PyData.keyHash P (PySem.Str.ofString "is_idle"), .str (PySem.Str.ofString "is_idle") 1157, (.ref 726)⟩ :: ⟨PySem.PyData.keyHash P (PySem.Str.ofString "its_deeds"), .str (PySem.Str.ofString "its_deeds") 1164, (.ref 733)⟩ :: ⟨PySem.PyData.keyHash P (PySem.Str.ofString "stand"), .str (PySem.Str.ofString "stand") 1173, (.ref 741)⟩ :: ⟨PySem.PyData.keyHash P (PySem.Str.ofString "__static_attributes__"), .str (PySem.Str.ofString "__static_attributes__") 1179, (.ref 742)⟩ :: ⟨PySem.PyData.keyHash P (PySem.Str.ofString "__dict__"), .str (PySem.Str.ofString "__dict__") 1181, (.ref 745)⟩ :: ⟨PySem.PyData.keyHash P (PySem.Str.ofString "__weakref__"), .str (PySem.Str.ofString "__weakref__") 1183, (.ref 746)⟩ :: ⟨PySem.PyData.keyHash P (PySem.Str.ofString "__doc__"), .str (PySem.Str.ofString "__doc__") 1184, .none⟩ :: ⟨PySem.PyData.keyHash P (PySem.Str.ofString "__hash__"), .str (PySem.Str.ofString "__hash__") 1185, .none⟩ :: [])) 5), #[]⟩) ::
  (nat_lit 744, ⟨(.type "type"), none, (.cls { name := (PySem.Str.ofString "Book"), bases := [(.type "object")], mro := [(.ref 744), (.type "object")], ns := 743, qualname := (PySem.Str.ofString "Book"), hasDict := true, slotNames := [], subclasses := [], abstract := false, collection := none, hasDel := false }), #[none, none, (some (.str (PySem.Str.ofString "Book") 894)), (some (.str (PySem.Str.ofString "Book") 902)), (some (.builtin "object.__new__")), (some (.bool true))]⟩) ::
  (nat_lit 745, ⟨(.type "getset_descriptor"), none, (.fields #[(.str (PySem.Str.ofString "__dict__") 1180), (.ref 744), (.builtin "function.__dict__"), (.builtin "function.__dict__#set")]), #[]⟩) ::
  (nat_lit 746, ⟨(.type "getset_descriptor"), none, (.fields #[(.str (PySem.Str.ofString "__weakref__") 1182), (.ref 744), (.builtin "ExceptionGroup.__weakref__"), .none]), #[]⟩) ::
  (nat_lit 752, ⟨(.type "code"), none, (.fields #[(.str (PySem.Str.ofString "_law_deck") 1190), (.str (PySem.Str.ofString "_law_deck") 1191), (.str (PySem.Str.ofString "/claim/cut.py") 1192), (.int (372) 0), (.int (1) 0), (.int (0) 0), (.int (0) 0), (.int (3) 0), (.ref 749), (.bool true), (.int (181) 0), (.ref 750), .none, .none, .none, (.ref 751), (.int (1193) 0), (.int (372) 0), (.str (PySem.Str.ofString "/claim/cut.py") 1194)]), #[]⟩) ::
  (nat_lit 753, ⟨(.type "function"), none, (.func (PySem.W.fnOf (PySem.Str.ofString "_law_deck") (PySem.Str.ofString "_law_deck") (defArgs (topR 75)) (defBody (topR 75)) (defScope (topR 75)) .none .none .none (.str (PySem.Str.ofString "law_opencalls_k80_whole_calls_in_any_order") 1188) none (.ref 752) .none)), #[]⟩) ::
  (nat_lit 759, ⟨(.type "code"), none, (.fields #[(.str (PySem.Str.ofString "_law_draw") 1196), (.str (PySem.Str.ofString "_law_draw") 1197), (.str (PySem.Str.ofString "/claim/cut.py") 1198), (.int (374) 0), (.int (2) 0), (.int (0) 0), (.int (0) 0), (.int (3) 0), (.ref 754), (.bool true), (.int (181) 0), (.ref 755), .none, (.ref 756), (.ref 757), (.ref 758), (.int (1203) 0), (.int (374) 0), (.str (PySem.Str.ofString "/claim/cut.py") 1204)]), #[]⟩) ::
  (nat_lit 760, ⟨(.type "function"), none, (.func (PySem.W.fnOf (PySem.Str.ofString "_law_draw") (PySem.Str.ofString "_law_draw") (defArgs (topR 76)) (defBody (topR 76)) (defScope (topR 76)) .none .none .none (.str (PySem.Str.ofString "law_opencalls_k80_whole_calls_in_any_order") 1188) none (.ref 759) .none)), #[]⟩) ::
  (nat_lit 766, ⟨(.type "code"), none, (.fields #[(.str (PySem.Str.ofString "_law_prime") 1206), (.str (PySem.Str.ofString "_law_prime") 1207), (.str (PySem.Str.ofString "/claim/cut.py") 1208), (.int (385) 0), (.int (1) 0), (.int (0) 0), (.int (0) 0), (.int (3) 0), (.ref 761), (.bool true), (.int (181) 0), (.ref 762), .none, (.ref 763), (.ref 764), (.ref 765), (.int (1210) 0), (.int (385) 0), (.str (PySem.Str.ofString "/claim/cut.py") 1211)]), #[]⟩) ::
  (nat_lit 767, ⟨(.type "function"), none, (.func (PySem.W.fnOf (PySem.Str.ofString "_law_prime") (PySem.Str.ofString "_law_prime") (defArgs (topR 77)) (defBody (topR 77)) (defScope (topR 77)) .none .none .none (.str (PySem.Str.ofString "law_opencalls_k80_whole_calls_in_any_order") 1188) none (.ref 766) .none)), #[]⟩) ::
  (nat_lit 771, ⟨(.type "code"), none, (.fields #[(.str (PySem.Str.ofString "_law_row") 1213), (.str (PySem.Str.ofString "_law_row") 1214), (.str (PySem.Str.ofString "/claim/cut.py") 1215), (.int (387) 0), (.int (3) 0), (.int (0) 0), (.int (0) 0), (.int (3) 0), (.ref 768), (.bool true), (.int (181) 0), (.ref 769), .none, .none, .none, (.ref 770), (.int (1216) 0), (.int (387) 0), (.str (PySem.Str.ofString "/claim/cut.py") 1217)]), #[]⟩) ::
  (nat_lit 772, ⟨(.type "function"), none, (.func (PySem.W.fnOf (PySem.Str.ofString "_law_row") (PySem.Str.ofString "_law_row") (defArgs (topR 78)) (defBody (topR 78)) (defScope (topR 78)) .none .none .none (.str (PySem.Str.ofString "law_opencalls_k80_whole_calls_in_any_order") 1188) none (.ref 771) .none)), #[]⟩) ::
  (nat_lit 776, ⟨(.type "code"), none, (.fields #[(.str (PySem.Str.ofString "_law_plus") 1219), (.str (PySem.Str.ofString "_law_plus") 1220), (.str (PySem.Str.ofString "/claim/cut.py") 1221), (.int (389) 0), (.int (4) 0), (.int (0) 0), (.int (0) 0), (.int (3) 0), (.ref 773), (.bool true), (.int (181) 0), (.ref 774), .none, .none, .none, (.ref 775), (.int (1222) 0), (.int (389) 0), (.str (PySem.Str.ofString "/claim/cut.py") 1223)]), #[]⟩) ::
  (nat_lit 777, ⟨(.type "function"), none, (.func (PySem.W.fnOf (PySem.Str.ofString "_law_plus") (PySem.Str.ofString "_law_plus") (defArgs (topR 79)) (defBody (topR 79)) (defScope (topR 79)) .none .none .none (.str (PySem.Str.ofString "law_opencalls_k80_whole_calls_in_any_order") 1188) none (.ref 776) .none)), #[]⟩) ::
  (nat_lit 783, ⟨(.type "code"), none, (.fields #[(.str (PySem.Str.ofString "_law_mixed") 1225), (.str (PySem.Str.ofString "_law_mixed") 1226), (.str (PySem.Str.ofString "/claim/cut.py") 1227), (.int (391) 0), (.int (4) 0), (.int (0) 0), (.int (0) 0), (.int (3) 0), (.ref 778), (.bool true), (.int (181) 0), (.ref 779), .none, (.ref 780), (.ref 781), (.ref 782), (.int (1234) 0), (.int (391) 0), (.str (PySem.Str.ofString "/claim/cut.py") 1235)]), #[]⟩) ::
  (nat_lit 784, ⟨(.type "function"), none, (.func (PySem.W.fnOf (PySem.Str.ofString "_law_mixed") (PySem.Str.ofString "_law_mixed") (defArgs (topR 80)) (defBody (topR 80)) (defScope (topR 80)) .none .none .none (.str (PySem.Str.ofString "law_opencalls_k80_whole_calls_in_any_order") 1188) none (.ref 783) .none)), #[]⟩) ::
  (nat_lit 790, ⟨(.type "code"), none, (.fields #[(.str (PySem.Str.ofString "_law_rows") 1237), (.str (PySem.Str.ofString "_law_rows") 1238), (.str (PySem.Str.ofString "/claim/cut.py") 1239), (.int (396) 0), (.int (4) 0), (.int (0) 0), (.int (0) 0), (.int (3) 0), (.ref 785), (.bool true), (.int (181) 0), (.ref 786), .none, (.ref 787), (.ref 788), (.ref 789), (.int (1247) 0), (.int (396) 0), (.str (PySem.Str.ofString "/claim/cut.py") 1248)]), #[]⟩) ::
  (nat_lit 791, ⟨(.type "function"), none, (.func (PySem.W.fnOf (PySem.Str.ofString "_law_rows") (PySem.Str.ofString "_law_rows") (defArgs (topR 81)) (defBody (topR 81)) (defScope (topR 81)) .none .none .none (.str (PySem.Str.ofString "law_opencalls_k80_whole_calls_in_any_order") 1188) none (.ref 790) .none)), #[]⟩) ::
  (nat_lit 795, ⟨(.type "code"), none, (.fields #[(.str (PySem.Str.ofString "_law_contrary") 1250), (.str (PySem.Str.ofString "_law_contrary") 1251), (.str (PySem.Str.ofString "/claim/cut.py") 1252), (.int (407) 0), (.int (2) 0), (.int (0) 0), (.int (0) 0), (.int (3) 0), (.ref 792), (.bool true), (.int (181) 0), (.ref 793), .none, .none, .none, (.ref 794), (.int (1253) 0), (.int (407) 0), (.str (PySem.Str.ofString "/claim/cut.py") 1254)]), #[]⟩) ::
  (nat_lit 796, ⟨(.type "function"), none, (.func (PySem.W.fnOf (PySem.Str.ofString "_law_contrary") (PySem.Str.ofString "_law_contrary") (defArgs (topR 82)) (defBody (topR 82)) (defScope (topR 82)) .none .none .none (.str (PySem.Str.ofString "law_opencalls_k80_whole_calls_in_any_order") 1188) none (.ref 795) .none)), #[]⟩) ::
  (nat_lit 800, ⟨(.type "code"), none, (.fields #[(.str (PySem.Str.ofString "_law_less") 1256), (.str (PySem.Str.ofString "_law_less") 1257), (.str (PySem.Str.ofString "/claim/cut.py") 1258), (.int (409) 0), (.int (4) 0), (.int (0) 0), (.int (0) 0), (.int (3) 0), (.ref 797), (.bool true), (.int (181) 0), (.ref 798), .none, .none, .none, (.ref 799), (.int (1259) 0), (.int (409) 0), (.str (PySem.Str.ofString "/claim/cut.py") 1260)]), #[]⟩) ::
  (nat_lit 801, ⟨(.type "function"), none, (.func (PySem.W.fnOf (PySem.Str.ofString "_law_less") (PySem.Str.ofString "_law_less") (defArgs (topR 83)) (defBody (topR 83)) (defScope (topR 83)) .none .none .none (.str (PySem.Str.ofString "law_opencalls_k80_whole_calls_in_any_order") 1188) none (.ref 800) .none)), #[]⟩) ::
  (nat_lit 805, ⟨(.type "code"), none, (.fields #[(.str (PySem.Str.ofString "_law_plain") 1262), (.str (PySem.Str.ofString "_law_plain") 1263), (.str (PySem.Str.ofString "/claim/cut.py") 1264), (.int (411) 0), (.int (3) 0), (.int (0) 0), (.int (0) 0), (.int (3) 0), (.ref 802), (.bool true), (.int (181) 0), (.ref 803), .none, .none, .none, (.ref 804), (.int (1265) 0), (.int (411) 0), (.str (PySem.Str.ofString "/claim/cut.py") 1266)]), #[]⟩) ::
  (nat_lit 806, ⟨(.type "function"), none, (.func (PySem.W.fnOf (PySem.Str.ofString "_law_plain") (PySem.Str.ofString "_law_plain") (defArgs (topR 84)) (defBody (topR 84)) (defScope (topR 84)) .none .none .none (.str (PySem.Str.ofString "law_opencalls_k80_whole_calls_in_any_order") 1188) none (.ref 805) .none)), #[]⟩) ::
  (nat_lit 810, ⟨(.type "code"), none, (.fields #[(.str (PySem.Str.ofString "_law_turned") 1268), (.str (PySem.Str.ofString "_law_turned") 1269), (.str (PySem.Str.ofString "/claim/cut.py") 1270), (.int (422) 0), (.int (2) 0), (.int (0) 0), (.int (0) 0), (.int (3) 0), (.ref 807), (.bool true), (.int (181) 0), (.ref 808), .none, .none, .none, (.ref 809), (.int (1271) 0), (.int (422) 0), (.str (PySem.Str.ofString "/claim/cut.py") 1272)]), #[]⟩) ::
  (nat_lit 811, ⟨(.type "function"), none, (.func (PySem.W.fnOf (PySem.Str.ofString "_law_turned") (PySem.Str.ofString "_law_turned") (defArgs (topR 85)) (defBody (topR 85)) (defScope (topR 85)) .none .none .none (.str (PySem.Str.ofString "law_opencalls_k80_whole_calls_in_any_order") 1188) none (.ref 810) .none)), #[]⟩) ::
  (nat_lit 815, ⟨(.type "code"), none, (.fields #[(.str (PySem.Str.ofString "_law_names") 1274), (.str (PySem.Str.ofString "_law_names") 1275), (.str (PySem.Str.ofString "/claim/cut.py") 1276), (.int (425) 0), (.int (2) 0), (.int (0) 0), (.int (0) 0), (.int (3) 0), (.ref 812), (.bool true), (.int (181) 0), (.ref 813), .none, .none, .none, (.ref 814), (.int (1277) 0), (.int (425) 0), (.str (PySem.Str.ofString "/claim/cut.py") 1278)]), #[]⟩) ::
  (nat_lit 816, ⟨(.type "function"), none, (.func (PySem.W.fnOf (PySem.Str.ofString "_law_names") (PySem.Str.ofString "_law_names") (defArgs (topR 86)) (defBody (topR 86)) (defScope (topR 86)) .none .none .none (.str (PySem.Str.ofString "law_opencalls_k80_whole_calls_in_any_order") 1188) none (.ref 815) .none)), #[]⟩) ::
  (nat_lit 822, ⟨(.type "code"), none, (.fields #[(.str (PySem.Str.ofString "_law_stand") 1280), (.str (PySem.Str.ofString "_law_stand") 1281), (.str (PySem.Str.ofString "/claim/cut.py") 1282), (.int (431) 0), (.int (4) 0), (.int (0) 0), (.int (0) 0), (.int (3) 0), (.ref 817), (.bool true), (.int (181) 0), (.ref 818), .none, (.ref 819), (.ref 820), (.ref 821), (.int (1293) 0), (.int (431) 0), (.str (PySem.Str.ofString "/claim/cut.py") 1294)]), #[]⟩) ::
  (nat_lit 823, ⟨(.type "function"), none, (.func (PySem.W.fnOf (PySem.Str.ofString "_law_stand") (PySem.Str.ofString "_law_stand") (defArgs (topR 87)) (defBody (topR 87)) (defScope (topR 87)) .none .none .none (.str (PySem.Str.ofString "law_opencalls_k80_whole_calls_in_any_order") 1188) none (.ref 822) .none)), #[]⟩) ::
  (nat_lit 829, ⟨(.type "code"), none, (.fields #[(.str (PySem.Str.ofString "_law_has") 1296), (.str (PySem.Str.ofString "_law_has") 1297), (.str (PySem.Str.ofString "/claim/cut.py") 1298), (.int (444) 0), (.int (4) 0), (.int (0) 0), (.int (0) 0), (.int (3) 0), (.ref 824), (.bool true), (.int (181) 0), (.ref 825), .none, (.ref 826), (.ref 827), (.ref 828), (.int (1303) 0), (.int (444) 0), (.str (PySem.Str.ofString "/claim/cut.py") 1304)]), #[]⟩) ::
  (nat_lit 830, ⟨(.type "function"), none, (.func (PySem.W.fnOf (PySem.Str.ofString "_law_has") (PySem.Str.ofString "_law_has") (defArgs (topR 88)) (defBody (topR 88)) (defScope (topR 88)) .none .none .none (.str (PySem.Str.ofString "law_opencalls_k80_whole_calls_in_any_order") 1188) none (.ref 829) .none)), #[]⟩) ::
  (nat_lit 836, ⟨(.type "code"), none, (.fields #[(.str (PySem.Str.ofString "_law_calls") 1306), (.str (PySem.Str.ofString "_law_calls") 1307), (.str (PySem.Str.ofString "/claim/cut.py") 1308), (.int (446) 0), (.int (2) 0), (.int (0) 0), (.int (0) 0), (.int (3) 0), (.ref 831), (.bool true), (.int (181) 0), (.ref 832), .none, (.ref 833), (.ref 834), (.ref 835), (.int (1319) 0), (.int (446) 0), (.str (PySem.Str.ofString "/claim/cut.py") 1320)]), #[]⟩) ::
  (nat_lit 837, ⟨(.type "function"), none, (.func (PySem.W.fnOf (PySem.Str.ofString "_law_calls") (PySem.Str.ofString "_law_calls") (defArgs (topR 89)) (defBody (topR 89)) (defScope (topR 89)) .none .none .none (.str (PySem.Str.ofString "law_opencalls_k80_whole_calls_in_any_order") 1188) none (.ref 836) .none)), #[]⟩) ::
  (nat_lit 841, ⟨(.type "code"), none, (.fields #[(.str (PySem.Str.ofString "_law_callers") 1322), (.str (PySem.Str.ofString "_law_callers") 1323), (.str (PySem.Str.ofString "/claim/cut.py") 1324), (.int (453) 0), (.int (2) 0), (.int (0) 0), (.int (0) 0), (.int (3) 0), (.ref 838), (.bool true), (.int (181) 0), (.ref 839), .none, .none, .none, (.ref 840), (.int (1325) 0), (.int (453) 0), (.str (PySem.Str.ofString "/claim/cut.py") 1326)]), #[]⟩) ::
  (nat_lit 842, ⟨(.type "function"), none, (.func (PySem.W.fnOf (PySem.Str.ofString "_law_callers") (PySem.Str.ofString "_law_callers") (defArgs (topR 90)) (defBody (topR 90)) (defScope (topR 90)) .none .none .none (.str (PySem.Str.ofString "law_opencalls_k80_whole_calls_in_any_order") 1188) none (.ref 841) .none)), #[]⟩) ::
  (nat_lit 848, ⟨(.type "code"), none, (.fields #[(.str (PySem.Str.ofString "_law_otherwise") 1328), (.str (PySem.Str.ofString "_law_otherwise") 1329), (.str (PySem.Str.ofString "/claim/cut.py") 1330), (.int (455) 0), (.int (3) 0), (.int (0) 0), (.int (0) 0), (.int (3) 0), (.ref 843), (.bool true), (.int (181) 0), (.ref 844), .none, (.ref 845), (.ref 846), (.ref 847), (.int (1343) 0), (.int (455) 0), (.str (PySem.Str.ofString "/claim/cut.py") 1344)]), #[]⟩) ::
  (nat_lit 849, ⟨(.type "function"), none, (.func (PySem.W.fnOf (PySem.Str.ofString "_law_otherwise") (PySem.Str.ofString "_law_otherwise") (defArgs (topR 91)) (defBody (topR 91)) (defScope (topR 91)) .none .none .none (.str (PySem.Str.ofString "law_opencalls_k80_whole_calls_in_any_order") 1188) none (.ref 848) .none)), #[]⟩) ::
  (nat_lit 855, ⟨(.type "code"), none, (.fields #[(.str (PySem.Str.ofString "_law_behind") 1346), (.str (PySem.Str.ofString "_law_behind") 1347), (.str (PySem.Str.ofString "/claim/cut.py") 1348), (.int (465) 0), (.int (2) 0), (.int (0) 0), (.int (0) 0), (.int (3) 0), (.ref 850), (.bool true), (.int (181) 0), (.ref 851), .none, (.ref 852), (.ref 853), (.ref 854), (.int (1353) 0), (.int (465) 0), (.str (PySem.Str.ofString "/claim/cut.py") 1354)]), #[]⟩) ::
  (nat_lit 856, ⟨(.type "function"), none, (.func (PySem.W.fnOf (PySem.Str.ofString "_law_behind") (PySem.Str.ofString "_law_behind") (defArgs (topR 92)) (defBody (topR 92)) (defScope (topR 92)) .none .none .none (.str (PySem.Str.ofString "law_opencalls_k80_whole_calls_in_any_order") 1188) none (.ref 855) .none)), #[]⟩) ::
  (nat_lit 860, ⟨(.type "code"), none, (.fields #[(.str (PySem.Str.ofString "_law_due") 1356), (.str (PySem.Str.ofString "_law_due") 1357), (.str (PySem.Str.ofString "/claim/cut.py") 1358), (.int (469) 0), (.int (2) 0), (.int (0) 0), (.int (0) 0), (.int (3) 0), (.ref 857), (.bool true), (.int (181) 0), (.ref 858), .none, .none, .none, (.ref 859), (.int (1359) 0), (.int (469) 0), (.str (PySem.Str.ofString "/claim/cut.py") 1360)]), #[]⟩) ::
  (nat_lit 861, ⟨(.type "function"), none, (.func (PySem.W.fnOf (PySem.Str.ofString "_law_due") (PySem.Str.ofString "_law_due") (defArgs (topR 93)) (defBody (topR 93)) (defScope (topR 93)) .none .none .none (.str (PySem.Str.ofString "law_opencalls_k80_whole_calls_in_any_order") 1188) none (.ref 860) .none)), #[]⟩) ::
  (nat_lit 865, ⟨(.type "code"), none, (.fields #[(.str (PySem.Str.ofString "_law_learned") 1362), (.str (PySem.Str.ofString "_law_learned") 1363), (.str (PySem.Str.ofString "/claim/cut.py") 1364), (.int (474) 0), (.int (2) 0), (.int (0) 0), (.int (0) 0), (.int (3) 0), (.ref 862), (.bool true), (.int (181) 0), (.ref 863), .none, .none, .none, (.ref 864), (.int (1365) 0), (.int (474) 0), (.str (PySem.Str.ofString "/claim/cut.py") 1366)]), #[]⟩) ::
  (nat_lit 866, ⟨(.type "function"), none, (.func (PySem.W.fnOf (PySem.Str.ofString "_law_learned") (PySem.Str.ofString "_law_learned") (defArgs (topR 94)) (defBody (topR 94)) (defScope (topR 94)) .none .none .none (.str (PySem.Str.ofString "law_opencalls_k80_whole_calls_in_any_order") 1188) none (.ref 865) .none)), #[]⟩) ::
  (nat_lit 872, ⟨(.type "code"), none, (.fields #[(.str (PySem.Str.ofString "law") 1368), (.str (PySem.Str.ofString "law") 1369), (.str (PySem.Str.ofString "/claim/cut.py") 1370), (.int (486) 0), (.int (1) 0), (.int (0) 0), (.int (0) 0), (.int (3) 0), (.ref 867), (.bool true), (.int (181) 0), (.ref 868), .none, (.ref 869), (.ref 870), (.ref 871), (.int (1381) 0), (.int (486) 0), (.str (PySem.Str.ofString "/claim/cut.py") 1382)]), #[]⟩) ::
  (nat_lit 873, ⟨(.type "function"), none, (.func (PySem.W.fnOf (PySem.Str.ofString "law") (PySem.Str.ofString "law") (defArgs (topR 95)) (defBody (topR 95)) (defScope (topR 95)) .none .none .none (.str (PySem.Str.ofString "law_opencalls_k80_whole_calls_in_any_order") 1188) none (.ref 872) .none)), #[]⟩) ::
  []
def as0 : List Addr := 2 :: 3 :: 30 :: 31 :: 32 :: 43 :: 44 :: 62 :: 63 :: 74 :: 75 :: 86 :: 87 :: 105 :: 106 :: 117 :: 118 :: 136 :: 137 :: 155 :: 156 :: 167 :: 168 :: 179 :: 180 :: 191 :: 192 :: 203 :: 204 :: 222 :: 223 :: 224 :: 242 :: 243 :: 244 :: 250 :: 251 :: 255 :: 256 :: 260 :: 261 :: 267 :: 268 :: 274 :: 275 :: 281 :: 282 :: 286 :: 287 :: 291 :: 292 :: 296 :: 297 :: 303 :: 304 :: 310 :: 311 :: 317 :: 318 :: 322 :: 323 :: 329 :: 330 :: 336 :: 337 :: 343 :: 344 :: 348 :: 349 :: 355 :: 356 :: 362 :: 363 :: 367 :: 368 :: 374 :: 375 :: 379 :: 380 :: 407 :: 408 :: 410 :: 411 :: 412 :: 413 :: 419 :: 420 :: 426 :: 427 :: 433 :: 434 :: 445 :: 446 :: 455 :: 456 :: 460 :: 461 :: 504 :: 510 :: 511 :: 524 :: 525 :: 538 :: 539 :: 552 :: 553 :: 559 :: 560 :: 566 :: 567 :: 573 :: 574 :: 624 :: 660 :: 668 :: 676 :: 684 :: 692 :: 700 :: 713 :: 714 :: 718 :: 719 :: 725 :: 726 :: 734 :: 743 :: 744 :: 745 :: 746 :: 752 :: 753 :: 759 :: 760 :: 766 :: 767 :: 771 :: 772 :: 776 :: 777 :: 783 :: 784 :: 790 :: 791 :: 795 :: 796 :: 800 :: 801 :: 805 :: 806 :: 810 :: 811 :: 815 :: 816 :: 822 :: 823 :: 829 :: 830 :: 836 :: 837 :: 841 :: 842 :: 848 :: 849 :: 855 :: 856 :: 860 :: 861 :: 865 :: 866 :: 872 :: 873 :: []
theorem as_ok (P : PySem.Params) : as0 = (K0 P).map (·.1) := by kernel_rfl
def names : List PySem.Str := (["_wall", "CallError", "NoRow", "NotKnown", "NoGroup", "Full", "NoPlace", "NoTurn", "NoName", "Taken", "Few", "NothingBack"] : List PySem.Str) ++ (["Long", "Busy", "NoHand", "NoMoment", "LETTERS", "is_name", "is_rising", "are_names", "is_number", "is_rest", "contrary", "is_row"] : List PySem.Str) ++ (["added", "times", "check_hand", "check_hands", "check_row", "is_noughts", "first_place", "cleared", "left_of", "widened", "room_of", "within"] : List PySem.Str) ++ (["names_of", "room_in", "behind", "led", "needed", "Moment", "names_at", "heard_at", "known_at", "stand_at", "gained", "are_first_rows"] : List PySem.Str) ++ (["after_call", "after_whisper", "after_meet", "news", "after_hide", "longer", "after_change", "all_led", "after_come", "after_go", "STEPS", "after"] : List PySem.Str) ++ (["DEEDS", "Book", "_law_deck", "_law_draw", "_law_prime", "_law_row", "_law_plus", "_law_mixed", "_law_rows", "_law_contrary", "_law_less", "_law_plain"] : List PySem.Str) ++ (["_law_turned", "_law_names", "_law_stand", "_law_has", "_law_calls", "_law_callers", "_law_otherwise", "_law_behind", "_law_due", "_law_learned"] : List PySem.Str)
abbrev R : PySem.W.OpenRow := PySem.W.OpenLaw.row PySem.Challenge.rw_opencalls_k80_whole_calls_in_any_order
abbrev hk : PySem.W.Hook := PySem.W.kHook K0 as0 as_ok
def ob (s : PySem.W.SharedT) : List (Option Obj) := as0.map (HandSHeadRun.getT s)
theorem ob_eq (s : PySem.W.SharedT) : ob s = hk.obs s.abs := by
  have e : HandSHeadRun.getT s = s.abs.heap.get? := funext (HandSHeadRun.getT_eq s)
  unfold ob
  rw [e]
  rfl
def RE (w : World) : Prop := HandSHeadRun.RunEq R (PySem.W.view R.prog [95]) hk ob 20000 names w
set_option maxHeartbeats 0 in
theorem run_f (w : World) : RE (w.withFollow "special-get-raises" false) := by
  intro os
  kernel_rfl
set_option maxHeartbeats 0 in
theorem run_t (w : World) : RE (w.withFollow "special-get-raises" true) := by
  intro os
  kernel_rfl
theorem run (w : World) : RE w := PySem.W.byRow2 "special-get-raises" run_f run_t w
end OCR
set_option Elab.async false
set_option linter.all false
set_option maxRecDepth 100000
namespace OC
open PySem PySem.Spec PyProof.Rows L2
/-! ### defs and their promises, by name -/
structure Df (K : PySem.W.Frag) (mg : Str → Option Value) (x : Str) (st : Stmt) (ps : List Str) : Prop where
  ex : ∃ (f : Addr) (fd : FuncData), Fun K x x st f fd ∧ Binds K fd ps [] ∧ mg x = some (.ref f)
structure Ok (P : Program) (w : World) (K : PySem.W.Frag) (mg : Str → Option Value) (base : Heap) (k : Nat) (x : Str) (ps : List Str) (sp : Sp) : Prop where
  ex : ∃ (f : Addr) (fd : FuncData), FnOk P w K mg base CX0 k f fd ps sp ∧ mg x = some (.ref f) ∧ PySem.W.keepIn K (.ref f) = true ∧ Binds K fd ps []
section
variable {P : Program} {w : World} {K : PySem.W.Frag} {mg : Str → Option Value} {base : Heap}
theorem Df.ok {x : Str} {st : Stmt} {N ps : List Str} {k : Nat} {sp : Sp} (D : Df K mg x st ps) (S : FnScope N ps (defScope st)) (len : ∀ vs H Q E, sp vs H Q E → vs.length = ps.length)
    (hbody : ∀ (f : Addr) (cdv : Value) (A : Around) (outer : List Env) (s : Shared) (H : Hp) (vs : List V) (Q : VK) (E : XK), Room k (A.deeper (envOfC x (defScope st) s.heap.objs.size f cdv)) → sp vs H Q E →
      ∃ t, PSs (cxOf CX0 P w K mg base N x (defScope st) f cdv A outer s H E).nox (defBody st) t ∧ t { nx := fun _ H' => Q .non H', rt := Q } (start N vs) H) : Ok P w K mg base (k + 1) x ps sp := by
  obtain ⟨f, fd, F, b, g⟩ := D.ex
  exact ⟨f, fd, F.ok S len (hbody f), g, F.kp, b⟩
theorem Ok.mono {x : Str} {ps : List Str} {j k : Nat} {sp : Sp} (O : Ok P w K mg base j x ps sp) (h : j ≤ k) : Ok P w K mg base k x ps sp := by
  obtain ⟨f, fd, F, r⟩ := O.ex
  exact ⟨f, fd, F.mono h, r⟩
theorem Ok.imp {x : Str} {ps : List Str} {k : Nat} {sp sp' : Sp} (O : Ok P w K mg base k x ps sp) (h : ∀ vs H Q E, sp' vs H Q E → sp vs H Q E) : Ok P w K mg base k x ps sp' := by
  obtain ⟨f, fd, F, r⟩ := O.ex
  exact ⟨f, fd, F.imp h, r⟩
end
section
variable {X : Cx} {x : Str} {ps : List Str} {k : Nat} {sp : Sp}
theorem pe_callO {e : Expr} {es : List Expr} {t : TA} {p pos : Pos} (O : Ok X.prog X.w X.K X.mg X.base k x ps sp) (hr : Room k X.A) (hg : Gl X x) (ha : PA X (e :: es) t) (hdb : (x == ("__debug__" : Str)) = false := by decide)
    (he : starEach (e :: es) X.env = (false, eval e X.env) :: starEach es X.env := by rfl) (hpl : (backTo pos (starEach es X.env)).any (·.1) = false := by rfl) :
    PE X (.Call (.Name x p) (e :: es) [] pos) (tCall sp [] E0 t) := by
  obtain ⟨f, fd, F, g, kp, b⟩ := O.ex
  exact pe_call F hr hg g kp b .nil pass0 ha hdb he hpl
end
/-! ### from the head's facts -/
theorem df_of {K : PySem.W.Frag} {h : Heap} {mg : Str → Option Value} {x : Str} {st : Stmt} {ps : List Str} {f : Addr} {oc : Value} {od an : Option Addr} {osl : Array (Option Value)} {kV doc pm cdv ct : Value} (X : K.In h) (G : h.Ns mainGlobals mg)
    (a : PySem.W.nsIn K mainGlobals x = some (some (.ref f)))
    (l : K.lookup f = some ⟨oc, od, .func (PySem.W.fnOf x x (defArgs st) (defBody st) (defScope st) .none kV doc pm an cdv ct), osl⟩)
    (c : PySem.W.codeIn K cdv x = true) (k : PySem.W.keepIn K (.ref f) = true)
    (hb : ∀ (kV doc pm : Value) (an : Option Addr) (cdv ct : Value) (us : List Value), us.length = ps.length → bindArgs (PySem.W.fnOf x x (defArgs st) (defBody st) (defScope st) .none kV doc pm an cdv ct) ⟨us, []⟩ = pure (ps.zip us)) :
    Df K mg x st ps := by
  have F := fun_mk (st := st) l c k
  exact ⟨f, _, F, F.binds hb, PySem.W.mg_of X G a⟩
end OC
set_option Elab.async false
set_option linter.all false
set_option maxRecDepth 100000
namespace OC
open PySem PySem.Spec PyProof.Rows L2
/-! ### kinds of values -/
inductive Kd where
  | non | bl | int | str | lst | tup | dct
  deriving DecidableEq
def Kd.name : Kd → String
  | .non => "NoneType" | .bl => "bool" | .int => "int" | .str => "str" | .lst => "list" | .tup => "tuple" | .dct => "dict"
def KdOf (K : PySem.W.Frag) (H : Hp) (v : V) (k : Kd) : Prop := TyX K H v (.type k.name)
section
variable {K : PySem.W.Frag} {H : Hp}
theorem kd_int (i : Int) : KdOf K H (.int i) .int := .base (.int i)
theorem kd_bl (b : Bool) : KdOf K H (.bl b) .bl := .base (.bl b)
theorem kd_non : KdOf K H .non .non := .base .non
theorem kd_str (x : Str) : KdOf K H (.str x) .str := .base (.str x)
theorem kd_tup {a : Addr} {xs : List V} (h : SqT K H a xs) : KdOf K H (.ref a) .tup := by
  rcases h with (h | ⟨o, h⟩) | ⟨o, its, n, h, c, _⟩
  · exact .base (.tup h)
  · exact .fTuple h
  · exact .kTuple h c
theorem kd_lst {a : Addr} {xs : List V} (h : SqL K H a xs) : KdOf K H (.ref a) .lst := by
  rcases h with (h | ⟨o, h⟩) | ⟨o, its, n, h, c, _⟩
  · exact .base (.lst h)
  · exact .base (.frz h)
  · exact .kList h c
theorem kd_dct {a : Addr} {kvs : List (Key × V)} (h : H a = some (.dK kvs)) : KdOf K H (.ref a) .dct := .base (.dK h)
theorem kit_int (k : Kd) : PySem.W.kitOne K (.type k.name) (.type "int") = some (decide (k = .int) || decide (k = .bl)) := by
  cases k <;> exact kit_ty (by decide +kernel)
theorem kit_bool (k : Kd) : PySem.W.kitOne K (.type k.name) (.type "bool") = some (decide (k = .bl)) := by
  cases k <;> exact kit_ty (by decide +kernel)
theorem kit_tuple (k : Kd) : PySem.W.kitOne K (.type k.name) (.type "tuple") = some (decide (k = .tup)) := by
  cases k <;> exact kit_ty (by decide +kernel)
theorem kit_str (k : Kd) : PySem.W.kitOne K (.type k.name) (.type "str") = some (decide (k = .str)) := by
  cases k <;> exact kit_ty (by decide +kernel)
end
/-! ### heaps -/
theorem same_upd {H : Hp} {p : Addr} {o : HO} (h : H p = none) : Same H (upd H p o) := fun b x e => by
  rw [upd_ne (ne_of_none e h)]
  exact e
theorem same_mut {H H' : Hp} {p : Addr} {o : HO} (e : Same H H') (h : H p = none) : Same H (upd H' p o) := fun b x q => by
  rw [upd_ne (ne_of_none q h)]
  exact e b x q
theorem Same.tup {K : PySem.W.Frag} {H H' : Hp} {a : Addr} {xs : List V} (e : Same H H') (h : SqT K H a xs) : SqT K H' a xs := by
  rcases h with (h | ⟨o, h⟩) | h
  · exact .inl (.inl (e _ _ h))
  · exact .inl (.inr ⟨o, e _ _ h⟩)
  · exact .inr h
/-- all but the deck's two lists stays -/
def Kept (d c : Addr) (H H' : Hp) : Prop := ∀ b o, H b = some o → b ≠ d → b ≠ c → H' b = some o
theorem Kept.refl (d c : Addr) (H : Hp) : Kept d c H H := fun _ _ h _ _ => h
theorem Kept.trans {d c : Addr} {H H1 H2 : Hp} (a : Kept d c H H1) (b : Kept d c H1 H2) : Kept d c H H2 := fun x o h n m => b x o (a x o h n m) n m
theorem Kept.of {d c : Addr} {H H' : Hp} (a : Same H H') : Kept d c H H' := fun x o h _ _ => a x o h
/-- the deck: a list of the cells' list and the count of draws -/
structure Deck (H : Hp) (d c : Addr) (t : Int) : Prop where
  hd : H d = some (.lst [.ref c, .int t])
  hc : ∃ cells : List Int, H c = some (.lst (cells.map V.int)) ∧ (∀ x ∈ cells, 0 ≤ x) ∧ cells.length ≤ 63
  ne : c ≠ d
  t0 : 0 ≤ t
theorem Deck.same {H H' : Hp} {d c : Addr} {t : Int} (D : Deck H d c t) (s : Same H H') : Deck H' d c t := by
  obtain ⟨hd, ⟨cells, h1, h2⟩, n, t0⟩ := D
  exact ⟨s _ _ hd, ⟨cells, s _ _ h1, h2⟩, n, t0⟩
theorem Kept.tup {K : PySem.W.Frag} {d c : Addr} {t : Int} {H H' : Hp} {a : Addr} {xs : List V} (D : Deck H d c t) (e : Kept d c H H') (h : SqT K H a xs) : SqT K H' a xs := by
  obtain ⟨hd, ⟨cells, h1, h2⟩, n, t0⟩ := D
  rcases h with (h | ⟨o, h⟩) | h
  · exact .inl (.inl (e _ _ h (fun z => by subst z; rw [hd] at h; cases h) (fun z => by subst z; rw [h1] at h; cases h)))
  · exact .inl (.inr ⟨o, e _ _ h (fun z => by subst z; rw [hd] at h; cases h) (fun z => by subst z; rw [h1] at h; cases h)⟩)
  · exact .inr h
theorem at_int {xs : List Int} {z : Int} (h0 : 0 ≤ z) (h1 : z < (xs.length : Int)) : ∃ x, x ∈ xs ∧ xs[z.toNat]? = some x ∧ atI (xs.map V.int) z = some (.int x) := by
  have hl : z.toNat < xs.length := by omega
  refine ⟨xs[z.toNat], List.getElem_mem hl, List.getElem?_eq_getElem hl, ?_⟩
  refine at_of (j := z.toNat) (by omega) ?_
  rw [List.getElem?_map, List.getElem?_eq_getElem hl]
  rfl
theorem ix_nat {n : Nat} {z : Int} (h0 : 0 ≤ z) (h1 : z < (n : Int)) : ixN n z = some z.toNat := by
  unfold ixN
  rw [if_pos h0, if_pos h1]
end OC
set_option Elab.async false
set_option linter.all false
set_option maxRecDepth 100000
namespace OC
open PySem PySem.Spec PyProof.Rows L2
/-! ### readings by name -/
def rLenQ (K : PySem.W.Frag) : List V → Hp → VK → Prop := fun xs H Q => ∃ p ys, xs = [.ref p] ∧ (SqL K H p ys ∨ SqT K H p ys) ∧ Q (.int ys.length) H
def rListQ (K : PySem.W.Frag) : List V → Hp → VK → Prop := fun xs H Q => ∃ p ys, xs = [.ref p] ∧ (SqL K H p ys ∨ SqT K H p ys) ∧ ∀ l, H l = none → Q (.ref l) (upd H l (.lst ys))
def rTupQ (K : PySem.W.Frag) : List V → Hp → VK → Prop := fun xs H Q => ∃ p ys, xs = [.ref p] ∧ ((SqL K H p ys ∧ ∀ l, H l = none → Q (.ref l) (upd H l (.tup ys))) ∨ (SqT K H p ys ∧ Q (.ref p) H))
/-! ### data kept -/
mutual
theorem dp_same {K : PySem.W.Frag} {H H' : Hp} (e : Same H H') : ∀ (d : PyData) (v : V), Dp K H v d → Dp K H' v d
  | .none, _, h => by cases h; exact .non
  | .bool b, _, h => by cases h; exact .bl b
  | .int i, _, h => by cases h; exact .int i
  | .str x, _, h => by cases h; exact .str x
  | .list ds, _, h => by
    cases h with
    | lst hs ha => exact .lst (e.seq hs) (dpAll_same e ds _ ha)
  | .tuple ds, _, h => by
    cases h with
    | tup hs ha => exact .tup (Same.tup e hs) (dpAll_same e ds _ ha)
  | .dict _, _, h => by cases h
theorem dpAll_same {K : PySem.W.Frag} {H H' : Hp} (e : Same H H') : ∀ (ds : List PyData) (vs : List V), DpAll K H vs ds → DpAll K H' vs ds
  | [], _, h => by cases h; exact .nil
  | d :: ds, _, h => by
    cases h with
    | cons h1 h2 => exact .cons (dp_same e d _ h1) (dpAll_same e ds _ h2)
end
theorem dpAll_len {K : PySem.W.Frag} {H : Hp} : ∀ {vs : List V} {ds : List PyData}, DpAll K H vs ds → vs.length = ds.length
  | _, _, .nil => rfl
  | _, _, .cons _ t => by rw [List.length_cons, List.length_cons, dpAll_len t]
theorem dpAll_get {K : PySem.W.Frag} {H : Hp} : ∀ {vs : List V} {ds : List PyData} {i : Nat} {v : V}, DpAll K H vs ds → vs[i]? = some v → ∃ d, ds[i]? = some d ∧ d ∈ ds ∧ Dp K H v d
  | _, _, i, v, .nil, e => by simp at e
  | _, _, 0, v, .cons h t, e => by
    have e : _ = v := Option.some.inj e
    subst e
    exact ⟨_, rfl, List.mem_cons_self, h⟩
  | _, _, i + 1, v, .cons h t, e => by
    obtain ⟨d, h1, h2, h3⟩ := dpAll_get (i := i) (v := v) t e
    exact ⟨d, h1, List.mem_cons_of_mem _ h2, h3⟩
theorem dpAll_ints {K : PySem.W.Frag} {H : Hp} : ∀ ns : List Int, DpAll K H (ns.map V.int) (ns.map PyData.int)
  | [] => .nil
  | n :: r => .cons (.int n) (dpAll_ints r)
/-! ### any thing, with dicts: its kind -/
def keyD : Key → PyData
  | .inl i => .int i
  | .inr x => .str x
def flD : V → PyData
  | .bl b => .bool b | .int i => .int i | .str x => .str x | _ => .none
def flOk : V → Bool
  | .non => true | .bl _ => true | .int _ => true | .str _ => true | _ => false
mutual
inductive Rep (K : PySem.W.Frag) (H : Hp) (bad : Addr → Prop) : V → PyData → Prop
  | non : Rep K H bad .non .none
  | bl (b : Bool) : Rep K H bad (.bl b) (.bool b)
  | int (i : Int) : Rep K H bad (.int i) (.int i)
  | str (x : Str) : Rep K H bad (.str x) (.str x)
  | lst {a : Addr} {xs : List V} {ds : List PyData} : H a = some (.lst xs) → ¬ bad a → RepAll K H bad xs ds → Rep K H bad (.ref a) (.list ds)
  | tup {a : Addr} {xs : List V} {ds : List PyData} : SqT K H a xs → RepAll K H bad xs ds → Rep K H bad (.ref a) (.tuple ds)
  | dct {a : Addr} {kvs : List (Key × V)} : H a = some (.dK kvs) → (kvs.all fun p => flOk p.2) = true → Rep K H bad (.ref a) (.dict (kvs.map fun p => (keyD p.1, flD p.2)))
inductive RepAll (K : PySem.W.Frag) (H : Hp) (bad : Addr → Prop) : List V → List PyData → Prop
  | nil : RepAll K H bad [] []
  | cons {v : V} {vs : List V} {d : PyData} {ds : List PyData} : Rep K H bad v d → RepAll K H bad vs ds → RepAll K H bad (v :: vs) (d :: ds)
end
def kdOf : PyData → Kd
  | .none => .non | .bool _ => .bl | .int _ => .int | .str _ => .str | .list _ => .lst | .tuple _ => .tup | .dict _ => .dct
section
variable {K : PySem.W.Frag} {H : Hp} {bad : Addr → Prop}
theorem Rep.kd : ∀ {v : V} {d : PyData}, Rep K H bad v d → KdOf K H v (kdOf d)
  | _, _, .non => kd_non
  | _, _, .bl b => kd_bl b
  | _, _, .int i => kd_int i
  | _, _, .str x => kd_str x
  | _, _, .lst h _ _ => kd_lst (.inl (.inl h))
  | _, _, .tup h _ => kd_tup h
  | _, _, .dct h _ => kd_dct h
theorem repAll_len : ∀ {vs : List V} {ds : List PyData}, RepAll K H bad vs ds → vs.length = ds.length
  | _, _, .nil => rfl
  | _, _, .cons _ t => by rw [List.length_cons, List.length_cons, repAll_len t]
theorem repAll_get : ∀ {vs : List V} {ds : List PyData} {i : Nat} {v : V}, RepAll K H bad vs ds → vs[i]? = some v → ∃ d, ds[i]? = some d ∧ d ∈ ds ∧ Rep K H bad v d
  | _, _, i, v, .nil, e => by simp at e
  | _, _, 0, v, .cons h t, e => by
    have e : _ = v := Option.some.inj e
    subst e
    exact ⟨_, rfl, List.mem_cons_self, h⟩
  | _, _, i + 1, v, .cons h t, e => by
    obtain ⟨d, h1, h2, h3⟩ := repAll_get (i := i) (v := v) t e
    exact ⟨d, h1, List.mem_cons_of_mem _ h2, h3⟩
theorem repAll_append : ∀ {xs ys : List V} {ds es : List PyData}, RepAll K H bad xs ds → RepAll K H bad ys es → RepAll K H bad (xs ++ ys) (ds ++ es)
  | _, _, _, _, .nil, h => h
  | _, _, _, _, .cons h t, g => .cons h (repAll_append t g)
theorem repAll_ints : ∀ ns : List Int, RepAll K H bad (ns.map V.int) (ns.map PyData.int)
  | [] => .nil
  | n :: r => .cons (.int n) (repAll_ints r)
end
/-! ### tuples stay -/
def Tk (H H' : Hp) : Prop := ∀ (K : PySem.W.Frag) (a : Addr) (xs : List V), SqT K H a xs → SqT K H' a xs
theorem Tk.refl (H : Hp) : Tk H H := fun _ _ _ h => h
theorem Tk.trans {H H1 H2 : Hp} (a : Tk H H1) (b : Tk H1 H2) : Tk H H2 := fun K x xs h => b K x xs (a K x xs h)
theorem Tk.of {H H' : Hp} (s : Same H H') : Tk H H' := fun _ _ _ h => Same.tup s h
theorem Tk.kept {d c : Addr} {t : Int} {H H' : Hp} (D : Deck H d c t) (k : Kept d c H H') : Tk H H' := fun _ _ _ h => Kept.tup D k h
theorem Tk.mut {H H' : Hp} {D : Addr} {xs ys : List V} (k : Tk H H') (h : H' D = some (.lst xs)) : Tk H (upd H' D (.lst ys)) := fun K a zs q => by
  rcases k K a zs q with (q | ⟨o, q⟩) | q
  · refine .inl (.inl ?_)
    rw [upd_ne (fun z => by subst z; rw [h] at q; cases q)]
    exact q
  · refine .inl (.inr ⟨o, ?_⟩)
    rw [upd_ne (fun z => by subst z; rw [h] at q; cases q)]
    exact q
  · exact .inr q
/-- what stays of things: tuples and dicts all, lists but the bad ones -/
structure Stays (bad : Addr → Prop) (H H' : Hp) : Prop where
  t : Tk H H'
  d : ∀ a kvs, H a = some (.dK kvs) → H' a = some (.dK kvs)
  l : ∀ a xs, H a = some (.lst xs) → ¬ bad a → H' a = some (.lst xs)
theorem Stays.of {bad : Addr → Prop} {H H' : Hp} (s : Same H H') : Stays bad H H' := ⟨Tk.of s, fun _ _ h => s _ _ h, fun _ _ h _ => s _ _ h⟩
theorem Stays.trans {bad : Addr → Prop} {H H1 H2 : Hp} (a : Stays bad H H1) (b : Stays bad H1 H2) : Stays bad H H2 := ⟨a.t.trans b.t, fun x y h => b.d x y (a.d x y h), fun x y h n => b.l x y (a.l x y h n) n⟩
theorem Stays.kept {d c : Addr} {t : Int} {H H' : Hp} (D : Deck H d c t) (k : Kept d c H H') : Stays (fun a => a = d ∨ a = c) H H' := by
  refine ⟨Tk.kept D k, fun a xs h => k a _ h (fun z => ?_) (fun z => ?_), fun a xs h nb => k a _ h (fun z => nb (.inl z)) (fun z => nb (.inr z))⟩
  · subst z; rw [D.hd] at h; cases h
  · obtain ⟨cells, h1, _⟩ := D.hc
    subst z; rw [h1] at h; cases h
mutual
theorem rep_stays {K : PySem.W.Frag} {bad : Addr → Prop} {H H' : Hp} (e : Stays bad H H') : ∀ (d : PyData) (v : V), Rep K H bad v d → Rep K H' bad v d
  | .none, _, h => by cases h; exact .non
  | .bool b, _, h => by cases h; exact .bl b
  | .int i, _, h => by cases h; exact .int i
  | .str x, _, h => by cases h; exact .str x
  | .list ds, _, h => by
    cases h with
    | lst hs hb ha => exact .lst (e.l _ _ hs hb) hb (repAll_stays e ds _ ha)
  | .tuple ds, _, h => by
    cases h with
    | tup hs ha => exact .tup (e.t _ _ _ hs) (repAll_stays e ds _ ha)
  | .dict _, _, h => by
    cases h with
    | dct hs hf => exact .dct (e.d _ _ hs) hf
theorem repAll_stays {K : PySem.W.Frag} {bad : Addr → Prop} {H H' : Hp} (e : Stays bad H H') : ∀ (ds : List PyData) (vs : List V), RepAll K H bad vs ds → RepAll K H' bad vs ds
  | [], _, h => by cases h; exact .nil
  | d :: ds, _, h => by
    cases h with
    | cons h1 h2 => exact .cons (rep_stays e d _ h1) (repAll_stays e ds _ h2)
end
/-! ### zip of two tuples, walked -/
theorem walk_zipT {K : PySem.W.Frag} {a b : Addr} {xs ys : List V} {n : Nat} (hn : n = min xs.length ys.length) : Walk (RZ.ItzT K a b) n (fun H => SqT K H a xs ∧ SqT K H b ys) (YPair (fun i => xs[i]?) (fun i => ys[i]?)) where
  goes i H hi q := by
    have hx : i < xs.length := by rw [hn] at hi; exact Nat.lt_of_lt_of_le hi (Nat.min_le_left _ _)
    have hy : i < ys.length := by rw [hn] at hi; exact Nat.lt_of_lt_of_le hi (Nat.min_le_right _ _)
    exact ⟨xs, ys, _, _, q.1, q.2, List.getElem?_eq_getElem hx, List.getElem?_eq_getElem hy⟩
  stops H q := ⟨xs, ys, q.1, q.2, by rw [hn]; omega⟩
  yields i H v H' _ q y := by
    obtain ⟨T, x, z, ev, nT, eH, gx, gz⟩ := y
    exact ⟨T, x, z, ev, nT, eH, gx xs q.1, gz ys q.2⟩
/-! ### the same: two things of one data -/
end OC
set_option Elab.async false
set_option linter.all false
set_option maxRecDepth 100000
set_option maxHeartbeats 2000000
namespace OC
open PySem PySem.Spec PyProof.Rows L2
/-! ### a tuple taken once is itself -/
theorem tuple_mul1 (l : Addr) (its : Array Value) (m : Nat) (od : Option Addr) (so : Array (Option Value)) (u : Tok) :
    Meets (Builtin.«tuple.__mul__» ⟨[.ref l, .int 1 u], []⟩) (fun _ R s => s.heap.get? l = some { cls := .type "tuple", dict := od, data := .seq its m, slots := so } ∧ R (.ok (.ret (Value.ref l))) s) := by
  refine .of_wp fun prog w A R s hh => ?_
  obtain ⟨hp, g, d, tk, os⟩ := s
  obtain ⟨hl, hR⟩ := hh
  have fi := AutoSeq1.idx_int
  have c0 : (decide ((1 : Int) < -(2 ^ 63)) || decide ((1 : Int) ≥ 2 ^ 63)) = false := by decide
  have c1 : (its.isEmpty || (1 : Int) == 1) = true := by simp
  wp_walk using wpAny_loadPart' hl
  exact ⟨_, rfl, hR⟩
/-- t * n: a new tuple, or for n = 1 the same -/
def rRepA (K : PySem.W.Frag) : R2 := fun x y H Q => ∃ l k xs, x = .ref l ∧ y = .int k ∧ SqT K H l xs ∧ xs ≠ [] ∧ 1 ≤ k ∧ k ≤ 1000 ∧ xs.length ≤ 1000 ∧ (k = 1 → Q (.ref l) H) ∧ (2 ≤ k → ∀ p, H p = none → Q (.ref p) (upd H p (.tup (List.replicate k.toNat xs).flatten)))
theorem op_repA {X : Cx} : OpR X (binaryOp .Mult) (rRepA X.K) := by
  intro pins s σ H x y v u Q I rx ry h
  obtain ⟨l, k, xs, ex, ey, hT, hne, h1, h2, hz, q1, q2⟩ := h
  by_cases hk : k = 1
  · subst hk ex ey
    have q := q1 rfl
    cases rx
    obtain ⟨t, rfl⟩ := ry
    obtain ⟨its, r, ⟨⟨cls, dd, data, sl⟩, ho, hc, n, hd⟩, hs⟩ := I.tuple hT
    simp only at hc hd
    subst hc hd
    refine wpAny_binaryOp_repeat_ref (T := "tuple") (U := "int") (by decide) ⟨_, ho, rfl⟩ (fun s' => typeIs_int s' 1 t) noFill_tuple_mul F.fills_int_mul F.slot_int_rmul repeat_tuple F.slot_int_index.lookup ?_
    refine call_meets F.slot_int_rmul (typeIs_int s 1 t) F.entry_int_rmul (F.args_int_rmul_2 _ _) (int_rmul_tuple 1 t l its.toArray n dd sl) ⟨ho, rfl, ⟨_, ho, rfl⟩, ?_⟩
    exact call_meets F.slot_tuple_mul ⟨_, ho, rfl⟩ F.entry_tuple_mul (F.args_tuple_mul_2 _ _) (tuple_mul1 l its.toArray n dd sl t) ⟨ho, .ref l, H, I, rfl, q⟩
  · exact op_repT pins s σ H x y v u Q I rx ry ⟨l, k, xs, ex, ey, hT, hne, by omega, h2, hz, q2 (by omega)⟩
/-- the same, whichever tuple it is -/
def rRepB (K : PySem.W.Frag) : R2 := fun x y H Q => ∃ l k xs, x = .ref l ∧ y = .int k ∧ SqT K H l xs ∧ xs ≠ [] ∧ 1 ≤ k ∧ k ≤ 1000 ∧ xs.length ≤ 1000 ∧ ∀ p H', Same H H' → SqT K H' p (List.replicate k.toNat xs).flatten → Q (.ref p) H'
theorem op_repB {X : Cx} : OpR X (binaryOp .Mult) (rRepB X.K) := by
  intro pins s σ H x y v u Q I rx ry h
  obtain ⟨l, k, xs, ex, ey, hT, hne, h1, h2, hz, q⟩ := h
  refine op_repA pins s σ H x y v u Q I rx ry ⟨l, k, xs, ex, ey, hT, hne, h1, h2, hz, fun hk => q l H (Same.refl H) ?_, fun _ p np => q p _ (same_upd np) (.inl (.inl upd_same))⟩
  subst hk
  rw [show ((1 : Int).toNat) = 1 from rfl, List.replicate_one, List.flatten_cons, List.flatten_nil, List.append_nil]
  exact hT
theorem rep_int (n : Nat) (x : Int) : (List.replicate n [V.int x]).flatten = (List.replicate n x).map V.int := by
  induction n with
  | zero => rfl
  | succ n ih => rw [List.replicate_succ, List.flatten_cons, ih, List.replicate_succ]; rfl
end OC
set_option Elab.async false
set_option linter.all false
set_option maxRecDepth 100000
namespace OC
open PySem PySem.Spec PyProof.Rows L2
theorem new_of {H H' : Hp} {p : Addr} {o : HO} (h : upd H p o = H') (n : H p = none) : Same H H' ∧ H' p = some o := by
  subst h
  exact ⟨same_upd n, upd_same⟩
/-- a name that holds a list or a tuple, walked while G' holds -/
def iSeqV (K : PySem.W.Frag) (i : Nat) : TI := fun σ H R => ∃ (a : Addr) (xs : List V) (G' : Hp → Prop), σ[i]? = some (some (.ref a)) ∧ G' H ∧ ((∀ H', G' H' → SqL K H' a xs) ∨ (∀ H', G' H' → SqT K H' a xs)) ∧ ∀ J, Walk J xs.length G' (YAt xs) → R J H
theorem pi_seqv {X : Cx} {tg : Expr} {x : Str} {pos : Pos} (i : Nat) (he : PE X (.Name x pos) (tVar i)) : PI X tg (.Name x pos) (iSeqV X.K i) := by
  refine ⟨fun pins s σ H R I h => ?_⟩
  obtain ⟨a, xs, G', hs, hg, hq, r⟩ := h
  rcases hq with hq | hq
  · exact (pi_list he).run pins s σ H R I ⟨.ref a, hs, a, rfl, ⟨xs, hq H hg⟩, r _ (walk_list.mono hq fun _ _ _ _ _ _ y => y)⟩
  · exact (pi_tup he).run pins s σ H R I ⟨.ref a, hs, a, rfl, ⟨xs, hq H hg⟩, r _ (walk_tup.mono hq fun _ _ _ _ _ _ y => y)⟩
theorem sz1000 {n : Nat} (h : n ≤ 1000) : n ≤ sizeLine := Nat.le_of_lt (small1000 h)
mutual
def noL : PyData → Bool
  | .none => true | .bool _ => true | .int _ => true | .str _ => true | .list _ => false | .tuple ds => noLAll ds | .dict _ => false
def noLAll : List PyData → Bool
  | [] => true
  | d :: ds => noL d && noLAll ds
end
mutual
theorem dp_tk {K : PySem.W.Frag} {H H' : Hp} (e : Tk H H') : ∀ (d : PyData) (v : V), noL d = true → Dp K H v d → Dp K H' v d
  | .none, _, _, h => by cases h; exact .non
  | .bool b, _, _, h => by cases h; exact .bl b
  | .int i, _, _, h => by cases h; exact .int i
  | .str x, _, _, h => by cases h; exact .str x
  | .list ds, _, n, h => by simp [noL] at n
  | .tuple ds, _, n, h => by
    cases h with
    | tup hs ha => exact .tup (e K _ _ hs) (dpAll_tk e ds _ (by simpa [noL] using n) ha)
  | .dict _, _, _, h => by cases h
theorem dpAll_tk {K : PySem.W.Frag} {H H' : Hp} (e : Tk H H') : ∀ (ds : List PyData) (vs : List V), noLAll ds = true → DpAll K H vs ds → DpAll K H' vs ds
  | [], _, _, h => by cases h; exact .nil
  | d :: ds, _, n, h => by
    have n' : noL d = true ∧ noLAll ds = true := by simpa [noLAll] using n
    cases h with
    | cons h1 h2 => exact .cons (dp_tk e d _ n'.1 h1) (dpAll_tk e ds _ n'.2 h2)
end
/-! ### rows as data -/
def rowD (r : List Int) : PyData := .tuple (r.map PyData.int)
theorem noL_ints : ∀ r : List Int, noLAll (r.map PyData.int) = true
  | [] => by simp [noLAll]
  | n :: r => by simp [noLAll, noL, noL_ints r]
theorem noL_row (r : List Int) : noL (rowD r) = true := by
  unfold rowD
  rw [noL]
  exact noL_ints r
theorem noL_rows : ∀ rs : List (List Int), noLAll (rs.map rowD) = true
  | [] => by simp [noLAll]
  | r :: rs => by simp [noLAll, noL_row, noL_rows rs]
theorem lay_ints : ∀ ns : List Int, PyData.canLayAll0 (ns.map PyData.int) = true
  | [] => by simp only [List.map_nil, PyData.canLayAll0]
  | n :: r => by simp only [List.map_cons, PyData.canLayAll0, PyData.canLay0, lay_ints r, Bool.and_self]
theorem depth_ints : ∀ ns : List Int, PyData.depthAll (ns.map PyData.int) = 0
  | [] => by simp only [List.map_nil, PyData.depthAll]
  | n :: r => by simp only [List.map_cons, PyData.depthAll, PyData.depth, depth_ints r, Nat.max_self]
theorem lay_rows : ∀ rs : List (List Int), PyData.canLayAll0 (rs.map rowD) = true
  | [] => by simp only [List.map_nil, PyData.canLayAll0]
  | r :: rs => by simp only [List.map_cons, PyData.canLayAll0, rowD, PyData.canLay0, lay_ints r, lay_rows rs, Bool.and_self]
theorem depth_rows : ∀ rs : List (List Int), PyData.depthAll (rs.map rowD) ≤ 1
  | [] => by simp only [List.map_nil, PyData.depthAll]; omega
  | r :: rs => by
    have := depth_rows rs
    simp only [List.map_cons, PyData.depthAll, rowD, PyData.depth, depth_ints r]
    omega
theorem shaped_ints (ns : List Int) : SeqAt.shaped (.list (ns.map PyData.int)) = true := by
  unfold SeqAt.shaped
  simp only [PyData.canLay0, lay_ints, PyData.depth, depth_ints, Bool.true_and]
  rfl
theorem shaped_lrows (rs : List (List Int)) : SeqAt.shaped (.list (rs.map rowD)) = true := by
  unfold SeqAt.shaped
  have := depth_rows rs
  simp only [PyData.canLay0, lay_rows, PyData.depth, Bool.true_and]
  exact decide_eq_true (by omega)
theorem shaped_trows (rs : List (List Int)) : SeqAt.shaped (.tuple (rs.map rowD)) = true := by
  unfold SeqAt.shaped
  have := depth_rows rs
  simp only [PyData.canLay0, lay_rows, PyData.depth, Bool.true_and]
  exact decide_eq_true (by omega)
theorem eqv_nil (ds : List PyData) : PyData.eqv (.list ds) (.list []) = decide (ds = []) := by
  cases ds with
  | nil => simp [PyData.eqv, PyData.eqvAll]
  | cons n r => simp [PyData.eqv, PyData.eqvAll]
theorem dpAll_int_inv {K : PySem.W.Frag} {H : Hp} : ∀ {xs : List V} {r : List Int}, DpAll K H xs (r.map PyData.int) → xs = r.map V.int
  | _, [], h => by cases h; rfl
  | _, n :: r, h => by
    cases h with
    | cons h1 h2 =>
      cases h1
      rw [dpAll_int_inv h2]
      rfl
theorem dp_row {K : PySem.W.Frag} {H : Hp} {v : V} {r : List Int} (h : Dp K H v (rowD r)) : ∃ a, v = .ref a ∧ SqT K H a (r.map V.int) := by
  unfold rowD at h
  cases h with
  | tup hs ha => exact ⟨_, rfl, (dpAll_int_inv ha) ▸ hs⟩
theorem row_dp {K : PySem.W.Frag} {H : Hp} {a : Addr} {r : List Int} (h : SqT K H a (r.map V.int)) : Dp K H (.ref a) (rowD r) := .tup h (dpAll_ints r)
theorem dpAll_append {K : PySem.W.Frag} {H : Hp} : ∀ {xs ys : List V} {ds es : List PyData}, DpAll K H xs ds → DpAll K H ys es → DpAll K H (xs ++ ys) (ds ++ es)
  | _, _, _, _, .nil, h => h
  | _, _, _, _, .cons h t, g => .cons h (dpAll_append t g)
theorem dpAll_row {K : PySem.W.Frag} {H : Hp} {vs : List V} {rs : List (List Int)} {i : Nat} {v : V} (h : DpAll K H vs (rs.map rowD)) (e : vs[i]? = some v) : ∃ a r, v = .ref a ∧ rs[i]? = some r ∧ r ∈ rs ∧ SqT K H a (r.map V.int) := by
  obtain ⟨d, g, _, hd⟩ := dpAll_get h e
  rw [List.getElem?_map] at g
  cases hr : rs[i]? with
  | none => rw [hr] at g; cases g
  | some r =>
    rw [hr] at g
    have ed : d = rowD r := (Option.some.inj g).symm
    subst ed
    obtain ⟨a, rfl, ha⟩ := dp_row hd
    exact ⟨a, r, rfl, rfl, List.mem_of_getElem? hr, ha⟩
/-- rests below p -/
def RowOk (p : Int) (r : List Int) : Prop := ∀ x ∈ r, 0 ≤ x ∧ x < p
/-! ### comprehensions of ints -/
def LcGoal (J : It) (g : TG) (tt : TT) (te : TE) (vs : List Nat) (σ : L2.St) (H : Hp) (Qd : Addr → Hp → Prop) : Prop := ∀ D, H D = none → ∃ W : Nat → Nat → Hp → Prop, (∃ m, W 0 m (upd H D (.lst []))) ∧ ∀ i m H, W i m H →
  (J.stop i H ∧ Qd D H) ∨ (J.go i H ∧ ∃ Nx : Hp → Prop, (∀ H', Nx H' → ∃ m', m' < m ∧ W (i + 1) m' H') ∧ ∀ x H', J.yld i H x H' → g x (wipe σ vs) H' fun σ2 H2 => wipe σ2 vs = wipe σ vs ∧ tt σ2 H2 fun b H3 =>
    if b = true then te σ2 H3 fun y H4 => ∃ acc, H4 D = some (.lst acc) ∧ acc.length < sizeLine ∧ Nx (upd H4 D (.lst (acc ++ [y]))) else Nx H3)
theorem lc_zipI {K : PySem.W.Frag} {a b : Addr} {xs ys : List Int} {σ : L2.St} {H : Hp} {Qd : Addr → Hp → Prop} {i j : Nat} {vs : List Nat} {te : TE} (f : Int → Int → Int) (hA : SqT K H a (xs.map V.int)) (hB : SqT K H b (ys.map V.int)) (hz : xs.length ≤ 1000)
    (hw : ∀ x y : Option V, wipe (((wipe σ vs).set i x).set j y) vs = wipe σ vs)
    (hte : ∀ (x y : Int) (H' : Hp) (Q' : VK), x ∈ xs → y ∈ ys → Same H H' → Q' (.int (f x y)) H' → te (((wipe σ vs).set i (some (.int x))).set j (some (.int y))) H' Q')
    (hd : ∀ D H', Same H H' → H D = none → H' D = some (.lst ((List.zipWith f xs ys).map V.int)) → Qd D H') :
    LcGoal (RZ.ItzT K a b) (gTup K 2 (gCons (gName i) (gCons (gName j) gNil))) tYes te vs σ H Qd := by
  intro D nD
  refine lc_it (walk_zipT (K := K) (a := a) (b := b) (xs := xs.map V.int) (ys := ys.map V.int) rfl) (fun k H' => Same H H' ∧ H' D = some (.lst (((List.zipWith f xs ys).take k).map V.int))) ⟨same_mut (Same.refl H) nD, upd_same⟩ (fun k H' _ hP => ⟨Same.tup hP.1 hA, Same.tup hP.1 hB⟩) (fun k x H1 H2 hk hP hY => ?_) (fun H' hP => hd D H' hP.1 nD ?_)
  · obtain ⟨Ta, x1, y1, rfl, nT, rfl, e1, e2⟩ := hY
    obtain ⟨sm, eD⟩ := hP
    have sT : Same H1 (upd H1 Ta (.tup [x1, y1])) := same_upd nT
    have e1 : (xs.map V.int)[k]? = some x1 := e1
    have e2 : (ys.map V.int)[k]? = some y1 := e2
    rw [List.getElem?_map] at e1 e2
    cases h1 : xs[k]? with
    | none => rw [h1] at e1; cases e1
    | some z1 =>
      cases h2 : ys[k]? with
      | none => rw [h2] at e2; cases e2
      | some z2 =>
        rw [h1] at e1
        rw [h2] at e2
        have q1 : x1 = V.int z1 := (Option.some.inj e1).symm
        have q2 : y1 = V.int z2 := (Option.some.inj e2).symm
        subst q1 q2
        refine ⟨Ta, [.int z1, .int z2], rfl, .inl (.inl upd_same), rfl, .int z1, [.int z2], rfl, .int z2, [], rfl, rfl, hw _ _, ?_⟩
        refine hte z1 z2 _ _ (List.mem_of_getElem? h1) (List.mem_of_getElem? h2) (sm.trans sT) ⟨_, sT _ _ eD, ?_, same_mut (sm.trans sT) nD, ?_⟩
        · rw [List.length_map, List.length_take, List.length_zipWith]
          exact small1000 (by omega)
        · rw [upd_same, List.take_add_one, List.getElem?_zipWith, h1, h2, List.map_append]
          rfl
  · obtain ⟨sm, eD⟩ := hP
    rw [eD, List.take_of_length_le]
    rw [List.length_zipWith, List.length_map, List.length_map]
    exact Nat.le_refl _
theorem lc_tupI {K : PySem.W.Frag} {a : Addr} {xs : List Int} {σ : L2.St} {H : Hp} {Qd : Addr → Hp → Prop} {i : Nat} {vs : List Nat} {te : TE} (f : Int → Int) (hA : SqT K H a (xs.map V.int)) (hz : xs.length ≤ 1000)
    (hw : ∀ x : Option V, wipe ((wipe σ vs).set i x) vs = wipe σ vs)
    (hte : ∀ (x : Int) (H' : Hp) (Q' : VK), x ∈ xs → Same H H' → Q' (.int (f x)) H' → te ((wipe σ vs).set i (some (.int x))) H' Q')
    (hd : ∀ D H', Same H H' → H D = none → H' D = some (.lst ((xs.map f).map V.int)) → Qd D H') :
    LcGoal (Itt K a) (gName i) tYes te vs σ H Qd := by
  intro D nD
  refine lc_it (walk_tup (K := K) (a := a) (xs := xs.map V.int)) (fun k H' => Same H H' ∧ H' D = some (.lst (((xs.map f).take k).map V.int))) ⟨same_mut (Same.refl H) nD, upd_same⟩ (fun k H' _ hP => Same.tup hP.1 hA) (fun k x H1 H2 hk hP hY => ?_) (fun H' hP => hd D H' hP.1 nD ?_)
  · obtain ⟨rfl, e1⟩ := hY
    obtain ⟨sm, eD⟩ := hP
    rw [List.getElem?_map] at e1
    cases h1 : xs[k]? with
    | none => rw [h1] at e1; cases e1
    | some z1 =>
      rw [h1] at e1
      have q1 : x = V.int z1 := (Option.some.inj e1).symm
      subst q1
      refine ⟨hw _, hte z1 _ _ (List.mem_of_getElem? h1) sm ⟨_, eD, ?_, same_mut sm nD, ?_⟩⟩
      · rw [List.length_map, List.length_take, List.length_map]
        exact small1000 (by omega)
      · rw [upd_same, List.take_add_one, List.getElem?_map, h1, List.map_append]
        rfl
  · obtain ⟨sm, eD⟩ := hP
    rw [eD, List.take_of_length_le]
    rw [List.length_map, List.length_map]
    exact Nat.le_refl _
end OC
set_option Elab.async false
set_option linter.all false
set_option maxRecDepth 100000
set_option maxHeartbeats 2000000
/-! defs that are called while no repr is under way (A.guards = some []): the layer's promise with that one fact more -/
namespace OC
open PySem PySem.Spec PyProof.Rows L2
structure FnG (P : Program) (w : World) (K : PySem.W.Frag) (mg : Str → Option Value) (base : Heap) (CX : CXT) (k : Nat)
    (f : Addr) (fd : FuncData) (ps : List Str) (sp : Sp) : Prop where
  len : ∀ vs H Q E, sp vs H Q E → vs.length = ps.length
  go : ∀ (A : Around) (outer : List Env) (s : Shared) (H : Hp) (args : Args) (us : List Value) (vs : List V) (Q : VK) (E : XK),
    Room k A → A.guards = some [] → Env0 P w K mg base A outer s H → BindsTo s fd args (ps.zip us) → Vals vs us → sp vs H Q E →
    codeAny (model P w) A (.call (.ref f) args) (CR CX outer P w H s Q E) s
section
variable {P : Program} {w : World} {K : PySem.W.Frag} {mg : Str → Option Value} {base : Heap} {CX : CXT} {k : Nat} {f : Addr} {fd : FuncData} {ps : List Str} {sp : Sp}
theorem FnG.of (F : FnOk P w K mg base CX k f fd ps sp) : FnG P w K mg base CX k f fd ps sp :=
  ⟨F.len, fun A outer s H args us vs Q E hr _ => F.run A outer s H args us vs Q E hr⟩
theorem FnG.mono {j : Nat} (F : FnG P w K mg base CX j f fd ps sp) (h : j ≤ k) : FnG P w K mg base CX k f fd ps sp :=
  ⟨F.len, fun A outer s H args us vs Q E hr => F.go A outer s H args us vs Q E (hr.mono h)⟩
end
/-- from the body, where no repr is under way -/
theorem fnG_of {CX : CXT} {P : Program} {w : World} {K : PySem.W.Frag} {mg : Str → Option Value} {base : Heap} {k : Nat} {f : Addr}
    {nm ql : Str} {pr : Arguments} {bd : List Stmt} {sc : Scope} {dV kV doc pm cdv ct oc : Value} {an od : Option Addr}
    {osl : Array (Option Value)} {N ps : List Str} {sp : Sp}
    (lk : K.lookup f = some ⟨oc, od, .func (PySem.W.fnOf nm ql pr bd sc dV kV doc pm an cdv ct), osl⟩)
    (hcd : PySem.W.codeIn K cdv ql = true) (S : FnScope N ps sc)
    (len : ∀ vs H Q E, sp vs H Q E → vs.length = ps.length)
    (hbody : ∀ (A : Around) (outer : List Env) (s : Shared) (H : Hp) (vs : List V) (Q : VK) (E : XK),
      Room k (A.deeper (envOfC ql sc s.heap.objs.size f cdv)) → A.guards = some [] → sp vs H Q E →
      ∃ t, PSs (cxOf CX P w K mg base N ql sc f cdv A outer s H E) bd t ∧ t { nx := fun _ H' => Q .non H', rt := Q } (start N vs) H) :
    FnG P w K mg base CX (k + 1) f (PySem.W.fnOf nm ql pr bd sc dV kV doc pm an cdv ct) ps sp where
  len := len
  go A outer s H args us vs Q E hr hgd e0 hb r hsp := by
    have same : ∀ b o, base.get? b = some o → s.heap.get? b = some o := fun b o e => (e0.bs b o e).1
    have inK : K.In s.heap := e0.mod.kin.keeps same
    have noLim : s.heap.NoLimit := e0.mod.nolimit.keeps same
    have kinds : ∀ y ∈ ps.zip us, sc.names.lookup y.1 = some .local ∨
        (sc.names.lookup y.1 = some .cell ∧ ((cellsFrom (s.heap.objs.size + 1) sc.names []).lookup y.1).isSome = true) := by
      rintro ⟨n, v⟩ hy
      exact (S.par n (List.of_mem_zip hy).1).imp id fun q => ⟨q, PySem.W.cellsFrom_some _ _ _ (.inl q)⟩
    apply codeAny_call_function hr.depth (inK _ _ lk) rfl S.co S.gen rfl (PySem.W.codeRec_of inK hcd)
    apply hb
    apply wpAny_newFunctionEnv_cells S.kind kinds
    intro env he s1 x
    cases he
    refine ⟨noLim.keeps x.toInCall.keep, codeAny_func ?_⟩
    obtain ⟨t, ht, hq⟩ := hbody A outer s H vs Q E (hr.deeper _) hgd hsp
    have I0 := inv_start (CX := CX) (P := P) (w := w) (E := E) S hr.hd e0 (len _ _ _ _ hsp) r x
    have ran := ht.run [] s1 (start N vs) H _ I0 hq
    apply wpAny_mono ran
    · intro fl s' hs
      rcases fl with _ | _ | _ | u
      all_goals first
        | (obtain ⟨v, σ', H', J, rv, q⟩ := hs; exact ⟨v, H', J.os, J.bare, J.base, J.hok, rv, q⟩)
        | (obtain ⟨σ', H', J, q⟩ := hs; exact ⟨V.non, H', J.os, J.bare, J.base, J.hok, rfl, q⟩)
        | (obtain ⟨_, _, _, q⟩ := hs; exact q.elim)
    · exact fun e s' hs => hs
/-! ### by name -/
section
variable {P : Program} {w : World} {K : PySem.W.Frag} {mg : Str → Option Value} {base : Heap}
theorem funG {x : Str} {st : Stmt} {f : Addr} {fd : FuncData} {N ps : List Str} {k : Nat} {sp : Sp} (F : Fun K x x st f fd) (S : FnScope N ps (defScope st)) (len : ∀ vs H Q E, sp vs H Q E → vs.length = ps.length)
    (hbody : ∀ (cdv : Value) (A : Around) (outer : List Env) (s : Shared) (H : Hp) (vs : List V) (Q : VK) (E : XK), Room k (A.deeper (envOfC x (defScope st) s.heap.objs.size f cdv)) → A.guards = some [] → sp vs H Q E →
      ∃ t, PSs (cxOf CX0 P w K mg base N x (defScope st) f cdv A outer s H E).nox (defBody st) t ∧ t { nx := fun _ H' => Q .non H', rt := Q } (start N vs) H) : FnG P w K mg base CX0 (k + 1) f fd ps sp := by
  obtain ⟨oc, od, kV, doc, pm, an, cdv, ct, osl, rfl, lk, hcd⟩ := F.ex
  refine fnG_of lk hcd S len ?_
  intro A outer s H vs Q E hr hgd hsp
  obtain ⟨t, h, q⟩ := hbody cdv A outer s H vs Q E hr hgd hsp
  exact ⟨t, h.nox, q⟩
end
end OC
set_option Elab.async false
set_option linter.all false
set_option maxRecDepth 100000
set_option maxHeartbeats 2000000
set_option Elab.async false
set_option linter.all false
set_option maxRecDepth 100000
set_option maxHeartbeats 2000000
/-! t[::-1] of a tuple -/
set_option Elab.async false
set_option linter.all false
set_option maxRecDepth 100000
set_option maxHeartbeats 2000000
/-! repr of things, where no repr is under way -/
namespace OC
open PySem PySem.Spec PyProof.Rows L2
mutual
def lstless : PyData → Bool
  | .none => true | .bool _ => true | .int _ => true | .str _ => true | .list _ => false | .tuple ds => lstlessAll ds | .dict _ => true
def lstlessAll : List PyData → Bool
  | [] => true
  | d :: ds => lstless d && lstlessAll ds
end
section
variable {X : Cx} {pins : List (Addr × Obj)} {σ : L2.St} {H : Hp} {s : Shared} {bad : Addr → Prop}
theorem reads_key {h : Heap} {k : Key} {u : Value} (e : keyIs k u = true) : Reads h u (keyD k) [] := by
  rcases keyIs_shape e with ⟨i, t, rfl, rfl⟩ | ⟨x, t, rfl, rfl⟩
  · exact .int i t
  · exact .str x t
theorem reads_fl {h : Heap} : ∀ {v : V} {u : Value}, flOk v = true → RelV v u → Reads h u (flD v) []
  | .non, _, _, r => by cases r; exact .none
  | .bl b, _, _, r => by cases r; exact .bool b
  | .int i, _, _, r => by obtain ⟨t, rfl⟩ := r; exact .int i t
  | .str x, _, _, r => by obtain ⟨t, rfl⟩ := r; exact .str x t
theorem reads_pairs {h : Heap} {P : Program} {w : World} : ∀ {es : List DictEntry} {vs : List (Key × Value)} {kvs : List (Key × V)}, Pairs (mixKind P w) es vs → KV kvs vs → (kvs.all fun p => flOk p.2) = true →
    ReadsAll h (es.map (·.key)) (kvs.map fun p => keyD p.1) [] ∧ ReadsAll h (es.map (·.val)) (kvs.map fun p => flD p.2) []
  | _, _, _, .nil, .nil, _ => ⟨.nil, .nil⟩
  | _, _, _, .cons h1 h2 t, .cons ⟨e1, e2⟩ t2, hf => by
    rw [List.all_cons, Bool.and_eq_true] at hf
    obtain ⟨a, b⟩ := reads_pairs (h := h) t t2 hf.2
    have k1 := reads_key (h := h) (show keyIs _ _ = true from h1)
    rw [← e1] at k1
    have v1 := reads_fl (h := h) hf.1 e2
    rw [← h2] at v1
    exact ⟨.cons k1 a, .cons v1 b⟩
end
/-- what repr asks of a thing -/
structure Fit (d : PyData) : Prop where
  len : d.shown.length ≤ 1000000
  sh : d.showable = true
  dp : d.depth ≤ 50
  ok : d.hasDict = true → lstless d = true
end OC
set_option Elab.async false
set_option linter.all false
set_option maxRecDepth 100000
set_option maxHeartbeats 2000000
/-! xs == [], xs != [], whatever xs holds -/
namespace OC
open PySem PySem.Spec PyProof.Rows L2
def rNeNil : R2 := fun x y H Q => ∃ l b xs, x = .ref l ∧ y = .ref b ∧ H l = some (.lst xs) ∧ H b = some (.lst []) ∧ Q (.bl (!xs.isEmpty)) H
theorem shaped_nil : SeqAt.shaped (.list []) = true := shaped_ints []
theorem op_neNil {X : Cx} (hu : X.A.units + 64 < cLine) : OpR X (compareOp .NotEq) rNeNil := by
  intro pins s σ H x y v u Q I rx ry h
  obtain ⟨l, b, xs, ex, ey, hl, hb, q⟩ := h
  cases xs with
  | nil =>
    subst ex ey
    exact op_neD hu pins s σ H _ _ v u Q I rx ry ⟨.list [], .list [], .lst (.inl (.inl hl)) .nil, .lst (.inl (.inl hb)) .nil, shaped_nil, shaped_nil, q⟩
  | cons z r =>
    subst ex ey
    cases rx
    cases ry
    obtain ⟨its, r1, p1, _⟩ := I.list (.inl (.inl hl))
    obtain ⟨its2, r2, p2, _⟩ := I.list (.inl (.inl hb))
    have l1 := r1.length
    have l2 := r2.length
    have hd : (its.toArray.size != its2.toArray.size) = true := by
      rw [List.size_toArray, List.size_toArray, ← l1, ← l2]
      rfl
    exact SeqAt.RcNeAt.lists_lengths p1.isList p2.isList hd (by omega) X.prog X.w X.xe _ ⟨.bl true, H, I, rfl, q⟩
end OC
set_option Elab.async false
set_option linter.all false
set_option maxRecDepth 100000
set_option maxHeartbeats 1000000
/-! things as data: what repr and the judges ask of them -/
namespace OC
open PySem PySem.Spec PyProof.Rows L2
/-- nothing is bad -/
abbrev NB : Addr → Prop := fun _ => False
/-- fit for repr, with bounds -/
structure FitB (B k : Nat) (d : PyData) : Prop where
  len : d.shown.length ≤ B
  sh : d.showable = true
  dp : d.depth ≤ k
  ok : d.hasDict = true → lstless d = true
theorem FitB.mono {B B' k k' : Nat} {d : PyData} (h : FitB B k d) (hB : B ≤ B') (hk : k ≤ k') : FitB B' k' d := ⟨Nat.le_trans h.len hB, h.sh, Nat.le_trans h.dp hk, h.ok⟩
theorem FitB.fit {B k : Nat} {d : PyData} (h : FitB B k d) (hB : B ≤ 1000000) (hk : k ≤ 50) : Fit d := ⟨Nat.le_trans h.len hB, h.sh, Nat.le_trans h.dp hk, h.ok⟩
theorem log_small {i : Int} (h : i.natAbs < 10 ^ 40) : i.natAbs.log2 < 1920 := by
  by_cases hz : i.natAbs = 0
  · rw [hz]
    decide
  · exact (Nat.log2_lt hz).mpr (Nat.lt_of_lt_of_le h (by decide +kernel))
theorem fit_int {i : Int} (h : i.natAbs < 10 ^ 40) : FitB 50 0 (.int i) := by
  refine ⟨?_, ?_, by simp [PyData.depth], by simp [PyData.hasDict]⟩
  · have e := int_text_length_le10 (k := 40) (by decide) h
    show (Str.ofString (toString i)).length ≤ 50
    rw [PySem.ofString_length]
    omega
  · simp only [PyData.showable]
    exact decide_eq_true (log_small h)
theorem sum_le {B : Nat} : ∀ {ts : List Str}, (∀ t ∈ ts, t.length ≤ B) → (ts.map (·.length)).sum ≤ ts.length * B
  | [], _ => by simp
  | t :: r, h => by
    have h1 := h t List.mem_cons_self
    have h2 := sum_le (ts := r) fun x hx => h x (List.mem_cons_of_mem _ hx)
    rw [List.map_cons, List.sum_cons, List.length_cons, Nat.add_mul]
    omega
theorem shownAll_map : ∀ ds : List PyData, PyData.shownAll ds = ds.map PyData.shown
  | [] => by simp [PyData.shownAll]
  | d :: r => by simp [PyData.shownAll, shownAll_map r]
theorem showAll_of : ∀ {ds : List PyData}, (∀ d ∈ ds, d.showable = true) → PyData.showableAll ds = true
  | [], _ => by simp [PyData.showableAll]
  | d :: r, h => by simp [PyData.showableAll, h d List.mem_cons_self, showAll_of (ds := r) fun x hx => h x (List.mem_cons_of_mem _ hx)]
theorem depthAll_of {k : Nat} : ∀ {ds : List PyData}, (∀ d ∈ ds, d.depth ≤ k) → PyData.depthAll ds ≤ k
  | [], _ => by simp [PyData.depthAll]
  | d :: r, h => by
    have h1 := h d List.mem_cons_self
    have h2 := depthAll_of (ds := r) fun x hx => h x (List.mem_cons_of_mem _ hx)
    simp only [PyData.depthAll]
    omega
/-- a row of rests, by data -/
def restD (p : Int) : PyData → Bool
  | .int i => decide (0 ≤ i) && decide (i < p)
  | _ => false
def isRowD (p n : Int) : PyData → Bool
  | .tuple ds => decide ((ds.length : Int) = n) && ds.all (restD p)
  | _ => false
/-- a tuple's length is within bounds -/
def lenOk : PyData → Prop
  | .tuple ds => ds.length ≤ 1000
  | _ => True
theorem row_rep {K : PySem.W.Frag} {H : Hp} {bad : Addr → Prop} {a : Addr} {r : List Int} (h : SqT K H a (r.map V.int)) : Rep K H bad (.ref a) (rowD r) := .tup h (repAll_ints r)
end OC
set_option Elab.async false
set_option linter.all false
set_option maxRecDepth 100000
set_option maxHeartbeats 1000000
/-! slices and sums of tuples, whichever tuple is told -/
namespace OC
open PySem PySem.Spec PyProof.Rows L2
theorem cut_whole {xs : List V} {lo hi : Option Int} (h : HT.sIx xs.length 0 lo = 0 ∧ HT.sIx xs.length xs.length hi = xs.length) : cutV xs lo hi = xs := by
  unfold cutV
  rw [h.1, h.2, List.drop_zero, Nat.sub_zero, List.take_length]
def rSlB (K : PySem.W.Frag) : V → Option Int → Option Int → Hp → VK → Prop := fun x lo hi H Q => ∃ a xs, x = .ref a ∧ SqT K H a xs ∧ ∀ p H', Same H H' → SqT K H' p (cutV xs lo hi) → Q (.ref p) H'
theorem sl_tupB {X : Cx} : SlR X (rSlB X.K) := by
  intro pins s σ H x v vl vu lo hi sl Q I rx hs pl pu h
  obtain ⟨a, xs, ex, hx, q⟩ := h
  exact sl_tupA pins s σ H x v vl vu lo hi sl Q I rx hs pl pu ⟨a, xs, ex, hx, fun hw => q a H (Same.refl H) (by rw [cut_whole hw]; exact hx), fun _ p np => q p _ (same_upd np) (.inl (.inl upd_same))⟩
def rCatB (K : PySem.W.Frag) : R2 := fun x y H Q => ∃ a b xs ys, x = .ref a ∧ y = .ref b ∧ SqT K H a xs ∧ SqT K H b ys ∧ xs.length + ys.length ≤ sizeLine ∧ ∀ p H', Same H H' → SqT K H' p (xs ++ ys) → Q (.ref p) H'
theorem op_catB {X : Cx} : OpR X (binaryOp .Add) (rCatB X.K) := by
  intro pins s σ H x y v u Q I rx ry h
  obtain ⟨a, b, xs, ys, ex, ey, hx, hy, hz, q⟩ := h
  refine op_catA pins s σ H x y v u Q I rx ry ⟨a, b, xs, ys, ex, ey, hx, hy, hz, fun z => q b H (Same.refl H) ?_, fun _ z => q a H (Same.refl H) ?_, fun _ _ p np => q p _ (same_upd np) (.inl (.inl upd_same))⟩
  · rw [z, List.nil_append]
    exact hy
  · rw [z, List.append_nil]
    exact hx
theorem cut_from {xs : List V} {i : Int} (h0 : 0 ≤ i) (h1 : i ≤ xs.length) : cutV xs (some i) none = xs.drop i.toNat := by
  unfold cutV
  have e : HT.sIx xs.length 0 (some i) = min i.toNat xs.length := by
    have := HT.sIx_nat xs.length 0 i.toNat
    rw [show ((i.toNat : Nat) : Int) = i by omega] at this
    exact this
  rw [e, HT.sIx_none, show min i.toNat xs.length = i.toNat by omega]
  exact List.take_of_length_le (by rw [List.length_drop]; omega)
mutual
theorem rep_weak {K : PySem.W.Frag} {b1 b2 : Addr → Prop} {H : Hp} (e : ∀ a, b2 a → b1 a) : ∀ (d : PyData) (v : V), Rep K H b1 v d → Rep K H b2 v d
  | .none, _, h => by cases h; exact .non
  | .bool b, _, h => by cases h; exact .bl b
  | .int i, _, h => by cases h; exact .int i
  | .str x, _, h => by cases h; exact .str x
  | .list ds, _, h => by
    cases h with
    | lst hs hb ha => exact .lst hs (fun z => hb (e _ z)) (repAll_weak e ds _ ha)
  | .tuple ds, _, h => by
    cases h with
    | tup hs ha => exact .tup hs (repAll_weak e ds _ ha)
  | .dict _, _, h => by
    cases h with
    | dct hs hf => exact .dct hs hf
theorem repAll_weak {K : PySem.W.Frag} {b1 b2 : Addr → Prop} {H : Hp} (e : ∀ a, b2 a → b1 a) : ∀ (ds : List PyData) (vs : List V), RepAll K H b1 vs ds → RepAll K H b2 vs ds
  | [], _, h => by cases h; exact .nil
  | d :: ds, _, h => by
    cases h with
    | cons h1 h2 => exact .cons (rep_weak e d _ h1) (repAll_weak e ds _ h2)
end
end OC
set_option Elab.async false
set_option linter.all false
set_option maxRecDepth 100000
set_option maxHeartbeats 1000000
/-! comprehensions over lists and tuples of things -/
namespace OC
open PySem PySem.Spec PyProof.Rows L2
mutual
theorem rep_fresh {K : PySem.W.Frag} {bad : Addr → Prop} {H : Hp} {B : Addr} (n : H B = none) : ∀ (d : PyData) (v : V), Rep K H bad v d → Rep K H (fun a => bad a ∨ a = B) v d
  | .none, _, h => by cases h; exact .non
  | .bool b, _, h => by cases h; exact .bl b
  | .int i, _, h => by cases h; exact .int i
  | .str x, _, h => by cases h; exact .str x
  | .list ds, _, h => by
    cases h with
    | lst hs hb ha => exact .lst hs (fun z => z.elim hb (fun e => by subst e; rw [n] at hs; cases hs)) (repAll_fresh n ds _ ha)
  | .tuple ds, _, h => by
    cases h with
    | tup hs ha => exact .tup hs (repAll_fresh n ds _ ha)
  | .dict _, _, h => by
    cases h with
    | dct hs hf => exact .dct hs hf
theorem repAll_fresh {K : PySem.W.Frag} {bad : Addr → Prop} {H : Hp} {B : Addr} (n : H B = none) : ∀ (ds : List PyData) (vs : List V), RepAll K H bad vs ds → RepAll K H (fun a => bad a ∨ a = B) vs ds
  | [], _, h => by cases h; exact .nil
  | d :: ds, _, h => by
    cases h with
    | cons h1 h2 => exact .cons (rep_fresh n d _ h1) (repAll_fresh n ds _ h2)
end
theorem upd_stays {bad : Addr → Prop} {H H' : Hp} {D : Addr} {xs ys : List V} (s : Stays bad H H') (h : H' D = some (.lst xs)) (bD : bad D) : Stays bad H (upd H' D (.lst ys)) := by
  refine ⟨s.t.mut h, fun a zs q => ?_, fun a zs q n => ?_⟩
  · have := s.d a zs q
    rw [upd_ne (fun z => by subst z; rw [h] at this; cases this)]
    exact this
  · rw [upd_ne (fun z => n (by rw [z]; exact bD))]
    exact s.l a zs q n
theorem Same.some {H H' : Hp} (s : Same H H') {a : Addr} (h : H a ≠ none) : H' a ≠ none := by
  rcases hq : H a with _ | o
  · exact absurd hq h
  · rw [s a o hq]
    exact fun z => nomatch z
/-- what is new at D or behind H -/
abbrev NewBy (H : Hp) (D : Addr) : Addr → Prop := fun a => H a ≠ none ∨ a = D
/-- a comprehension [f(x) for x in xs]: each thing to a thing, new ones alone -/
theorem lc_mapR {K : PySem.W.Frag} {J : It} {G : Hp → Prop} {vs : List V} {ds : List PyData} {σ : L2.St} {H : Hp} {Qd : Addr → Hp → Prop} {i : Nat} {sl : List Nat} {te : TE} (F : PyData → PyData)
    (w : Walk J vs.length G (YAt vs)) (hG : ∀ H', Same H H' → G H') (hD : RepAll K H NB vs ds) (hz : vs.length ≤ 1000) (hw : ∀ x : Option V, wipe ((wipe σ sl).set i x) sl = wipe σ sl)
    (hte : ∀ (v : V) (d : PyData) (H' : Hp) (Q' : VK), d ∈ ds → Rep K H' NB v d → Same H H' → (∀ v' H'', Same H' H'' → Rep K H'' (fun a => H' a ≠ none) v' (F d) → Q' v' H'') → te ((wipe σ sl).set i (some v)) H' Q')
    (hd : ∀ D H' ws, Same H H' → H D = none → H' D = some (.lst ws) → RepAll K H' (NewBy H D) ws (ds.map F) → Qd D H') :
    LcGoal J (gName i) tYes te sl σ H Qd := by
  intro D nD
  have lv := repAll_len hD
  refine lc_it w (fun k H' => Same H H' ∧ ∃ ws, H' D = some (.lst ws) ∧ ws.length = k ∧ RepAll K H' (NewBy H D) ws ((ds.take k).map F)) ⟨same_mut (Same.refl H) nD, [], upd_same, rfl, .nil⟩ (fun k H' _ hP => hG H' hP.1) (fun k x H1 H2 hk hP hY => ?_) (fun H' hP => ?_)
  · obtain ⟨rfl, e1⟩ := hY
    obtain ⟨sm, ws, eD, lw, rw_⟩ := hP
    obtain ⟨d, g, md, rx⟩ := repAll_get hD e1
    refine ⟨hw _, hte x d _ _ md (rep_stays (Stays.of sm) _ _ rx) sm fun v' H'' s2 rv => ?_⟩
    have eD2 := s2 _ _ eD
    refine ⟨ws, eD2, small1000 (by omega), same_mut (sm.trans s2) nD, ws ++ [v'], upd_same, by rw [List.length_append, lw]; rfl, ?_⟩
    rw [List.take_add_one, g, List.map_append]
    refine repAll_append (repAll_stays (upd_stays (Stays.of s2) eD2 (.inr rfl)) _ _ rw_) (.cons ?_ .nil)
    refine rep_stays (upd_stays (Stays.of (Same.refl H'')) eD2 (.inr rfl)) _ _ (rep_weak (fun a ha => ?_) _ _ rv)
    rcases ha with h | h
    · exact Same.some sm h
    · subst h
      rw [eD]
      exact fun z => nomatch z
  · obtain ⟨sm, ws, eD, lw, rw_⟩ := hP
    rw [List.take_of_length_le (by omega)] at rw_
    exact hd D H' ws sm nD eD rw_
/-- [x for x in xs if t] -/
theorem lc_filterR {K : PySem.W.Frag} {J : It} {G : Hp → Prop} {vs : List V} {ds : List PyData} {σ : L2.St} {H : Hp} {Qd : Addr → Hp → Prop} {i : Nat} {sl : List Nat} {tt : TT} (q : PyData → Bool)
    (w : Walk J vs.length G (YAt vs)) (hG : ∀ H', Same H H' → G H') (hD : RepAll K H NB vs ds) (hz : vs.length ≤ 1000) (hw : ∀ x : Option V, wipe ((wipe σ sl).set i x) sl = wipe σ sl) (hi : i < (wipe σ sl).length)
    (htt : ∀ (v : V) (d : PyData) (H' : Hp) (Q' : Bool → Hp → Prop), d ∈ ds → Rep K H' NB v d → Same H H' → (∀ H'', Same H' H'' → Q' (q d) H'') → tt ((wipe σ sl).set i (some v)) H' Q')
    (hd : ∀ D H' ws, Same H H' → H D = none → H' D = some (.lst ws) → RepAll K H' NB ws (ds.filter q) → Qd D H') :
    LcGoal J (gName i) tt (tVar i) sl σ H Qd := by
  intro D nD
  have lv := repAll_len hD
  have hDf := repAll_fresh nD _ _ hD
  refine lc_it w (fun k H' => Same H H' ∧ ∃ ws, H' D = some (.lst ws) ∧ ws.length ≤ k ∧ RepAll K H' (fun a => NB a ∨ a = D) ws ((ds.take k).filter q)) ⟨same_mut (Same.refl H) nD, [], upd_same, Nat.le_refl _, .nil⟩ (fun k H' _ hP => hG H' hP.1) (fun k x H1 H2 hk hP hY => ?_) (fun H' hP => ?_)
  · obtain ⟨rfl, e1⟩ := hY
    obtain ⟨sm, ws, eD, lw, rw_⟩ := hP
    obtain ⟨d, g, md, rx⟩ := repAll_get hD e1
    obtain ⟨d', g', _, rx'⟩ := repAll_get hDf e1
    have edd : d' = d := Option.some.inj (g'.symm.trans g)
    subst edd
    refine ⟨hw _, htt x d' _ _ md (rep_stays (Stays.of sm) _ _ rx) sm fun H'' s2 => ?_⟩
    have eD2 := s2 _ _ eD
    have tk : (ds.take (k + 1)).filter q = (ds.take k).filter q ++ (if q d' = true then [d'] else []) := by
      rw [List.take_add_one, g, List.filter_append]
      congr 1
      by_cases hq : q d' = true
      · simp [hq]
      · simp [hq]
    by_cases hq : q d' = true
    · rw [hq]
      refine iteT ⟨x, by rw [List.getElem?_set_self hi], ws, eD2, small1000 (by omega), same_mut (sm.trans s2) nD, ws ++ [x], upd_same, by rw [List.length_append]; simp; omega, ?_⟩
      rw [tk, if_pos hq]
      refine repAll_append (repAll_stays (upd_stays (Stays.of s2) eD2 (.inr rfl)) _ _ rw_) (.cons ?_ .nil)
      exact rep_stays (upd_stays (Stays.of (sm.trans s2)) eD2 (.inr rfl)) _ _ rx'
    · have hq' : q d' = false := by simpa using hq
      rw [hq']
      refine iteF ⟨sm.trans s2, ws, eD2, by omega, ?_⟩
      rw [tk, if_neg hq, List.append_nil]
      exact repAll_stays (Stays.of s2) _ _ rw_
  · obtain ⟨sm, ws, eD, lw, rw_⟩ := hP
    rw [List.take_of_length_le (by omega)] at rw_
    exact hd D H' ws sm nD eD (repAll_weak (fun _ h => h.elim) _ _ rw_)
/-- ints of a list of ints -/
theorem lc_listI {K : PySem.W.Frag} {a : Addr} {xs : List Int} {σ : L2.St} {H : Hp} {Qd : Addr → Hp → Prop} {i : Nat} {vs : List Nat} {te : TE} (f : Int → Int) (hA : SqL K H a (xs.map V.int)) (hz : xs.length ≤ 1000)
    (hw : ∀ x : Option V, wipe ((wipe σ vs).set i x) vs = wipe σ vs)
    (hte : ∀ (x : Int) (H' : Hp) (Q' : VK), x ∈ xs → Same H H' → Q' (.int (f x)) H' → te ((wipe σ vs).set i (some (.int x))) H' Q')
    (hd : ∀ D H', Same H H' → H D = none → H' D = some (.lst ((xs.map f).map V.int)) → Qd D H') :
    LcGoal (Itl K a) (gName i) tYes te vs σ H Qd := by
  intro D nD
  refine lc_it (walk_list (K := K) (a := a) (xs := xs.map V.int)) (fun k H' => Same H H' ∧ H' D = some (.lst (((xs.map f).take k).map V.int))) ⟨same_mut (Same.refl H) nD, upd_same⟩ (fun k H' _ hP => hP.1.seq hA) (fun k x H1 H2 hk hP hY => ?_) (fun H' hP => hd D H' hP.1 nD ?_)
  · obtain ⟨rfl, e1⟩ := hY
    obtain ⟨sm, eD⟩ := hP
    rw [List.getElem?_map] at e1
    cases h1 : xs[k]? with
    | none => rw [h1] at e1; cases e1
    | some z1 =>
      rw [h1] at e1
      have q1 : x = V.int z1 := (Option.some.inj e1).symm
      subst q1
      refine ⟨hw _, hte z1 _ _ (List.mem_of_getElem? h1) sm ⟨_, eD, ?_, same_mut sm nD, ?_⟩⟩
      · rw [List.length_map, List.length_take, List.length_map]
        exact small1000 (by omega)
      · rw [upd_same, List.take_add_one, List.getElem?_map, h1, List.map_append]
        rfl
  · obtain ⟨sm, eD⟩ := hP
    rw [eD, List.take_of_length_le]
    rw [List.length_map, List.length_map]
    exact Nat.le_refl _
theorem lc_zipLI {K : PySem.W.Frag} {a b : Addr} {xs ys : List Int} {σ : L2.St} {H : Hp} {Qd : Addr → Hp → Prop} {i j : Nat} {vs : List Nat} {te : TE} (f : Int → Int → Int) (hA : SqL K H a (xs.map V.int)) (hB : SqL K H b (ys.map V.int)) (hz : xs.length ≤ 1000)
    (hw : ∀ x y : Option V, wipe (((wipe σ vs).set i x).set j y) vs = wipe σ vs)
    (hte : ∀ (x y : Int) (H' : Hp) (Q' : VK), x ∈ xs → y ∈ ys → Same H H' → Q' (.int (f x y)) H' → te (((wipe σ vs).set i (some (.int x))).set j (some (.int y))) H' Q')
    (hd : ∀ D H', Same H H' → H D = none → H' D = some (.lst ((List.zipWith f xs ys).map V.int)) → Qd D H') :
    LcGoal (Itz K a b) (gTup K 2 (gCons (gName i) (gCons (gName j) gNil))) tYes te vs σ H Qd := by
  intro D nD
  refine lc_it (walk_zip (K := K) (a := a) (b := b) (xs := xs.map V.int) (ys := ys.map V.int) rfl) (fun k H' => Same H H' ∧ H' D = some (.lst (((List.zipWith f xs ys).take k).map V.int))) ⟨same_mut (Same.refl H) nD, upd_same⟩ (fun k H' _ hP => ⟨hP.1.seq hA, hP.1.seq hB⟩) (fun k x H1 H2 hk hP hY => ?_) (fun H' hP => hd D H' hP.1 nD ?_)
  · obtain ⟨Ta, x1, y1, rfl, nT, rfl, e1, e2⟩ := hY
    obtain ⟨sm, eD⟩ := hP
    have sT : Same H1 (upd H1 Ta (.tup [x1, y1])) := same_upd nT
    have e1 : (xs.map V.int)[k]? = some x1 := e1
    have e2 : (ys.map V.int)[k]? = some y1 := e2
    rw [List.getElem?_map] at e1 e2
    cases h1 : xs[k]? with
    | none => rw [h1] at e1; cases e1
    | some z1 =>
      cases h2 : ys[k]? with
      | none => rw [h2] at e2; cases e2
      | some z2 =>
        rw [h1] at e1
        rw [h2] at e2
        have q1 : x1 = V.int z1 := (Option.some.inj e1).symm
        have q2 : y1 = V.int z2 := (Option.some.inj e2).symm
        subst q1 q2
        refine ⟨Ta, [.int z1, .int z2], rfl, .inl (.inl upd_same), rfl, .int z1, [.int z2], rfl, .int z2, [], rfl, rfl, hw _ _, ?_⟩
        refine hte z1 z2 _ _ (List.mem_of_getElem? h1) (List.mem_of_getElem? h2) (sm.trans sT) ⟨_, sT _ _ eD, ?_, same_mut (sm.trans sT) nD, ?_⟩
        · rw [List.length_map, List.length_take, List.length_zipWith]
          exact small1000 (by omega)
        · rw [upd_same, List.take_add_one, List.getElem?_zipWith, h1, h2, List.map_append]
          rfl
  · obtain ⟨sm, eD⟩ := hP
    rw [eD, List.take_of_length_le]
    rw [List.length_zipWith, List.length_map, List.length_map]
    exact Nat.le_refl _
end OC
set_option Elab.async false
set_option linter.all false
set_option maxRecDepth 100000
set_option maxHeartbeats 2000000
/-! enumerate(t) of a tuple, in a for -/
namespace OC
open PySem PySem.Spec PyProof.Rows L2
open Sem (wp)
theorem meets_enum1 {v : Value} {ob : Obj} {G : Heap → Prop} (B : Begins v ob G) : Meets (Builtin.«enumerate.__new__» ⟨[.type "enumerate", v], []⟩) (fun _ R s => G s.heap ∧ R (.ok (.ret (.ref (s.heap.push ob).objs.size))) { s with heap := (s.heap.push ob).push { cls := .type "enumerate", data := .fields #[.none, .bool false, .ref s.heap.objs.size, rawInt 0, .none, .none] } }) :=
  .of_wp fun P w A R s z => by
    obtain ⟨hp, g, d, tk, os⟩ := s
    obtain ⟨z1, z⟩ := z
    have hsub := sub_enumerate
    have q1 : ∀ {A' : Around} {E' : Value → Shared → Prop} {Q' : Value → Shared → Prop}, Q' (.ref hp.objs.size) ⟨hp.push ob, g, d, tk, os⟩ → wpAny (model P w) A' (pyIter v) Q' E' ⟨hp, g, d, tk, os⟩ := fun y => B.iter P w _ _ ⟨hp, g, d, tk, os⟩ _ z1 y
    wp_walk using q1
    refine wpAny_stack_any fun _ => wpAny_pure ?_
    split
    · rename_i c _ _ _ _ _
      cases (c == Value.type "enumerate") <;> (wp_walk using q1; exact ⟨_, rfl, z⟩)
    · wp_walk using q1
      exact ⟨_, rfl, z⟩
section
variable {P : Program} {w : World} {A : Around} {E : Value → Shared → Prop} {s : Shared}
theorem call_enumB {v : Value} {ob : Obj} {G : Heap → Prop} {Q : Value → Shared → Prop} (B : Begins v ob G) (g : G s.heap)
    (q : ∀ h1 : Heap, IsEnum h1 (s.heap.objs.size + 1) s.heap.objs.size 0 .none → h1.get? s.heap.objs.size = some ob → (∀ b o, s.heap.get? b = some o → h1.get? b = some o) → Q (.ref (s.heap.objs.size + 1)) { s with heap := h1 }) : wpAny (model P w) A (call (.type "enumerate") [v]) Q E s := by
  refine callType_new F.called_enumerate (by decide) (F.typeCall_enumerate_1 _) (F.newCall_enumerate_1 _) (fun z => F.args_object_init_2 z _) F.entry_enumerate_new (meets_enum1 B) ⟨g, ?_⟩
  have sz : (s.heap.push ob).objs.size = s.heap.objs.size + 1 := Heap.size_push ..
  show _ ∧ _
  rw [sz]
  have en : IsEnum ((s.heap.push ob).push { cls := .type "enumerate", data := .fields #[.none, .bool false, .ref s.heap.objs.size, rawInt 0, .none, .none] }) (s.heap.objs.size + 1) s.heap.objs.size 0 .none := by
    have z := Heap.get?_push_size (s.heap.push ob) (o := { cls := .type "enumerate", data := .fields #[.none, .bool false, .ref s.heap.objs.size, rawInt 0, .none, .none] }) rfl
    rw [sz] at z
    exact z
  exact ⟨⟨_, en, rfl⟩, q _ en (Heap.get?_push_of_some _ (Heap.get?_push_size _ B.free)) fun b o z => Heap.get?_push_of_some _ (Heap.get?_push_of_some _ z)⟩
end
/-- the tuple at a, each item in a new pair -/
def IteT (K : PySem.W.Frag) (a : Addr) : It :=
  ⟨fun i H => ∃ (xs : List V) (x : V), SqT K H a xs ∧ xs[i]? = some x,
   fun i H v H' => ∃ T x, v = .ref T ∧ H T = none ∧ H' = upd H T (.tup [.int (i : Nat), x]) ∧ ∀ xs, SqT K H a xs → xs[i]? = some x,
   fun i H => ∃ xs : List V, SqT K H a xs ∧ xs.length ≤ i⟩
theorem turn_enumT {P : Program} {w : World} {K : PySem.W.Frag} {elts : List Expr} {kk : Nat} {tp : Pos} (a e it : Addr) :
    Turn P w K (.Tuple elts kk tp) (IteT K a) [e, it] e (fun i h => (∃ old, IsEnum h e it ((i : Nat) : Int) old) ∧ h.IsTupleIter it a i ∧ e ≠ it) where
  mem := by simp
  obj := fun i h st b hb => by
    obtain ⟨⟨old, he⟩, ⟨o, ho, hc, hd⟩, _⟩ := st
    rcases (by simpa using hb : b = e ∨ b = it) with z | z
    · subst z; exact ⟨_, he, fun v y => nomatch y⟩
    · subst z; exact ⟨o, ho, fun v y => by rw [hd] at y; cases y⟩
  keep := fun i h h' st k => by
    obtain ⟨⟨old, he⟩, hi, ne⟩ := st
    exact ⟨⟨old, k e (by simp) _ he⟩, hi.at fun o y => k it (by simp) o y, ne⟩
  item := by
    intro X hP hw hK hc i pins s σ H E I hf st hg
    subst hP hw hK
    obtain ⟨⟨old, he⟩, hit, ne⟩ := st
    obtain ⟨xs, x, hq, hx⟩ := hg
    obtain ⟨its, rv, tp, hz⟩ := I.tuple hq
    obtain ⟨u, hu, ru⟩ := rv.get hx
    have hel : e < s.heap.objs.size := Heap.lt_size he
    have hil : it < s.heap.objs.size := by obtain ⟨_, y, _⟩ := hit; exact Heap.lt_size y
    have ta : s.heap.IsTuple a its.toArray := tp
    have ai : a ≠ it := fun z => by
      obtain ⟨o1, g1, c1, _⟩ := ta
      obtain ⟨o2, g2, c2, _⟩ := hit
      rw [z, g2] at g1
      rw [← Option.some.inj g1, c2] at c1
      exact absurd (Value.type.inj c1) (by decide)
    have ea : e ≠ a := fun z => by
      obtain ⟨o1, g1, c1, _⟩ := ta
      have he' : s.heap.get? e = some _ := he
      rw [z, g1] at he'
      have := Option.some.inj he'
      rw [this] at c1
      exact absurd (Value.type.inj c1) (by decide)
    have hlt : i < its.toArray.size := by
      have := (List.getElem?_eq_some_iff.mp hu).1
      simpa using this
    refine wpAny_pyNext_enum_itemD (Draws.tuple (A := X.A.in1) (I.ok.hd hc) it a ai its.toArray) he ⟨hit, ta⟩ hlt ne (by simp [ne, ea]) fun u' h1 tk hu' ho st1 hT hsz hk => ?_
    have eu : u' = u := by
      have e1 : its.toArray[i]? = some u := by simpa using hu
      rw [e1] at hu'
      exact (Option.some.inj hu').symm
    subst eu
    refine ⟨_, rfl, wpAny_letOwnedTupleGo_enum (s := { s with heap := h1, toks := tk + 1 }) ho fun h2 he' sb => ?_⟩
    have hT2 : h2.get? s.heap.objs.size = some { cls := .type "tuple", data := .seq #[.int i tk, u'] } := (sb.2 _ (Nat.ne_of_gt hel)).trans hT
    have new : ObjOk X.prog X.w (upd H s.heap.objs.size (.tup [.int (i : Nat), x])) h2 s.heap.objs.size (.tup [.int (i : Nat), x]) := ⟨(by decide : 2 ≤ sizeLine), [.int i tk, u'], .cons ⟨_, rfl⟩ (.cons ru .nil), ⟨_, hT2, rfl, _, rfl⟩⟩
    have I1 : Inv X pins σ (upd H s.heap.objs.size (.tup [.int (i : Nat), x])) { s with heap := h2, toks := tk + 1 } :=
      I.turnedNew (t' := tk + 1) (ch := [e, it]) (fun b ob nb y => (sb.2 b (fun z => nb (by simp [z]))).trans (hk b ob (fun z => nb (by simp [z])) (fun z => nb (by simp [z])) y)) hf (Nat.le_refl _) new
    refine ⟨.ref s.heap.objs.size, _, I1, rfl, ⟨_, x, rfl, I.hok.fresh (Nat.le_refl _), rfl, fun ys hy => by rw [I.tuple_inj hy hq]; exact hx⟩, ⟨⟨u', ?_⟩, st1.1.at fun o y => (sb.2 it (Ne.symm ne)).trans y, ne⟩, fun b hb => ?_⟩
    · rw [show ((i + 1 : Nat) : Int) = (i : Int) + 1 from by omega]
      exact he'
    · have lb : b < s.heap.objs.size := by
        rcases (by simpa using hb : b = e ∨ b = it) with z | z
        · exact z ▸ hel
        · exact z ▸ hil
      rw [upd_ne (Nat.ne_of_lt lb)]
      exact (hf b hb).1
  done := by
    intro X hP hw hK hc i pins s σ H E I hf st hg
    subst hP hw hK
    obtain ⟨⟨old, he⟩, hit, ne⟩ := st
    obtain ⟨xs, hq, hx⟩ := hg
    obtain ⟨its, rv, tp, hz⟩ := I.tuple hq
    obtain ⟨f0, f1, f2, f3, f4, f5⟩ := hf it (by simp)
    have ta : s.heap.IsTuple a its.toArray := tp
    have hl := rv.length
    have hh : X.A.in1.handled = none := I.ok.hd hc
    have hT : s.TypeIs (.ref e) "enumerate" := ⟨_, he, rfl⟩
    unfold pyNext
    refine wpAny_bind (wpAny_attempt (wpAny_callSpecial?_slot (name := Str.ofString "__next__") hT F.slot_enumerate_next (wpAny_call_entry F.slot_enumerate_next hT F.entry_enumerate_next ?_ (F.args_enumerate_next_1 _))))
    show wpAny _ _ (field (.ref e) 2 >>= _) _ _ s
    refine wpAny_bind (wpAny_field he rfl (x := .ref it) rfl (wpAny_bind (wpAny_nextOf_tuple_end hh hit ta (by simp; omega) fun h1 x eb hx' => ?_)))
    obtain ⟨o, ho, hcl⟩ := hx'
    refine wpAny_bind (wpAny_isInstance (T := "StopIteration") (b := true) ⟨o, ho, hcl⟩ isSubtype_stop (wpAny_pure ?_))
    exact ⟨rfl, I.turned (t' := s.toks) (fun b o nb y => eb b o nb y) f0 f1 f3 f4 f5⟩
  self := fun A i s Q E st h => by
    obtain ⟨⟨_, he⟩, _⟩ := st
    exact wpAny_pyIter_enum he h
def iEnumT (K : PySem.W.Frag) (ta : TA) : TI := fun σ H R => ta σ H fun vs H1 => ∃ a xs, vs = [.ref a] ∧ SqT K H1 a xs ∧ R (IteT K a) H1
theorem pi_enumT {X : Cx} {e : Expr} {ta : TA} {p pos tpos : Pos} {elts : List Expr} {kk : Nat} (hg : Gl X "enumerate") (hm : X.mg "enumerate" = none) (ha : PA X [e] ta) (hs : starEach [e] X.env = [(false, eval e X.env)] := by rfl) : PI X (.Tuple elts kk tpos) (.Call (.Name "enumerate" p) [e] [] pos) (iEnumT X.K ta) := by
  refine ⟨fun pins s σ H R I h => Call_ (ld_blt I hg hm boot_enumerate (PyProof.Rows.callWith_type1 (thn (ha.run pos pins s σ H _ I h) fun us s1 ⟨vs, H1, I1, r1, q1⟩ => ?_) hs rfl))⟩
  obtain ⟨a, xs, rfl, hq, q⟩ := q1
  cases r1 with
  | cons r rr =>
    cases rr
    cases r
    obtain ⟨its, rv, tp, hz⟩ := I1.tuple hq
    refine call_enumB (begins_tuple a its.toArray) tp fun h1 he hit hk => wpAny_pyIter_enum he ?_
    refine ⟨s1.heap.objs.size + 1, [s1.heap.objs.size + 1, s1.heap.objs.size], _, _, H1, rfl, I1.kept (t' := s1.toks) hk, turn_enumT a (s1.heap.objs.size + 1) s1.heap.objs.size, ⟨⟨.none, he⟩, ⟨_, hit, rfl, rfl⟩, Nat.succ_ne_self _⟩, fun b hb => ?_, q⟩
    have hle : s1.heap.objs.size ≤ b := by
      rcases (by simpa using hb : b = s1.heap.objs.size + 1 ∨ b = s1.heap.objs.size) with z | z
      · rw [z]; exact Nat.le_add_right _ _
      · rw [z]; exact Nat.le_refl _
    exact I1.fpOk hle (I1.hok.fresh hle)
theorem walk_enumT {K : PySem.W.Frag} {a : Addr} {xs : List V} : Walk (IteT K a) xs.length (fun H => SqT K H a xs) (YPair (fun i => some (.int (i : Nat))) (fun i => xs[i]?)) where
  goes i H hi q := ⟨xs, xs[i], q, List.getElem?_eq_getElem hi⟩
  stops H q := ⟨xs, q, Nat.le_refl _⟩
  yields i H v H' _ q y := by
    obtain ⟨T, x, ev, nT, eH, gx⟩ := y
    exact ⟨T, _, x, ev, nT, eH, rfl, gx xs q⟩
end OC
set_option Elab.async false
set_option linter.all false
set_option maxRecDepth 100000
set_option maxHeartbeats 2000000
/-! sorted(xs, reverse=True) of tuples of as many rests each -/
namespace OC
open PySem PySem.Spec PyProof.Rows L2 SrtO
section
variable {P : Program} {w : World} {A : Around} {s : Shared}
def ltT (h : Heap) (B : Int) : Value → Value → Bool := fun v u => decide (TS.code B (TS.intsOf h v) < TS.code B (TS.intsOf h u))
theorem swo_T (h : Heap) (B : Int) : Swo (ltT h B) where
  asym x y e := by
    have := of_decide_eq_true e
    exact decide_eq_false (by omega)
  tr x y z e1 e2 := by
    have h1 := of_decide_eq_false e1
    have h2 := of_decide_eq_false e2
    exact decide_eq_false (by omega)
theorem tups_sortable {h0 : Heap} {a : Addr} {vs : List Value} {d : Nat} {B : Int} (hd : 1 ≤ d) (h2 : 2 ≤ vs.length) (x : TS.TupsOk s.heap d B vs) (hi : ∀ v ∈ vs, TS.intsOf h0 v = TS.intsOf s.heap v) (ha : ∀ o, s.heap.get? a = some o → o.cls ≠ .type "tuple") : SortableO P w A s a vs (ltT h0 B) := by
  intro h' keep
  have x' : TS.TupsOk h' d B vs := x.keeps fun b o e c => keep b o (fun z => by subst z; exact ha o e c) e
  obtain ⟨fs, k, hl, hf⟩ := TS.firsts_of hd vs x'
  refine ⟨tuples' true, fun Q E hq => ?_, fun p q hp hq => ?_⟩
  · refine PySem.W.kat_kind (T := Value.type "int") k (by omega) (fun f hm => ?_) rfl ?_
    · obtain ⟨n, t, rfl⟩ := hf f hm
      exact PySem.W.Looks.of_pure rfl
    · rw [show (Value.type "int" != Value.type "tuple") = true from by first | decide +kernel | rfl]
      exact hq
  · obtain ⟨ns, tp, lp, bp⟩ := x _ hp
    obtain ⟨ms, tq, lq, bq⟩ := x _ hq
    have kk : ∀ b o, s.heap.get? b = some o → o.cls = .type "tuple" → h'.get? b = some o := fun b o e c => keep b o (fun z => by subst z; exact ha o e c) e
    have e1 : TS.intsOf h0 p.1 = ns := by rw [hi _ hp]; exact tp.ints
    have e2 : TS.intsOf h0 q.1 = ms := by rw [hi _ hq]; exact tq.ints
    have tp' := tp.keeps kk
    have tq' := tq.keeps kk
    show wpAny (model P w) A (keyLt' (tuples' true) p.1 q.1) (fun r s' => s' = { s with heap := h' } ∧ r = ltT h0 B p.1 q.1) (fun _ _ => False) { s with heap := h' }
    unfold ltT
    rw [e1, e2]
    obtain ⟨a1, xs, q1, ⟨o, ho, hc, n, hdt⟩, i⟩ := tp'
    obtain ⟨a2, ys, q2, ⟨o', ho', hc', n', hdt'⟩, i'⟩ := tq'
    rw [q1, q2]
    refine PySem.W.kat_lt (s := { s with heap := h' }) ho hdt ho' hdt' ?_
    have sz : decide (xs.size < ys.size) = false := by
      have l1 := i.length
      have l2 := i'.length
      rw [Array.length_toList] at l1 l2
      exact decide_eq_false (by omega)
    rw [sz]
    exact TS.lex_ints 0 i i' (by omega) bp bq ⟨rfl, rfl⟩
end
def rSortTR (K : PySem.W.Frag) : List V → List V → Hp → VK → Prop := fun vs zs H Q => ∃ (a : Addr) (xs : List V) (d : Nat) (B : Int), vs = [V.ref a] ∧ zs = [.bl true] ∧ 1 ≤ d ∧ SqL K H a xs ∧ (∀ x ∈ xs, ∃ ns, TupI K H x ns ∧ ns.length = d ∧ TS.Bd B ns) ∧
  ∀ (ys : List V) (p : Addr), ys.Perm xs → ys.Pairwise (fun x y => ∀ n m, TupI K H x n → TupI K H y m → TS.code B m ≤ TS.code B n) → H p = none → Q (.ref p) (upd H p (.lst ys))
theorem cr_sortTR {X : Cx} : CallRK X (.builtin "sorted") [Str.ofString "reverse"] (rSortTR X.K) := by
  intro pins s σ H vs zs us ws Q I r rz h
  obtain ⟨a, xs, d, B, rfl, rfl, hd, hs, hx, q⟩ := h
  rw [Vals.ref1 r]
  obtain ⟨w1, rfl, e1⟩ := vals1 rz
  obtain rfl : w1 = Value.bool true := e1
  obtain ⟨its, rv, hl, hz⟩ := I.list hs
  obtain ⟨e1, e2⟩ := bkV_refs rv fun x m => by
    obtain ⟨ns, ⟨t, e, _⟩, _⟩ := hx x m
    exact ⟨t, e⟩
  have tups : TS.TupsOk s.heap d B its := fun v hv => by
    obtain ⟨t, rfl⟩ := e2 v hv
    have hm : V.ref t ∈ xs := by rw [e1]; exact List.mem_map.mpr ⟨_, hv, rfl⟩
    obtain ⟨ns, ⟨t', e, ht⟩, hn, hb⟩ := hx _ hm
    cases e
    exact ⟨ns, tupI_raw I ht, hn, hb⟩
  show wpAny (model X.prog X.w) X.A (call (.builtin "sorted") [.ref a] [(Str.ofString "reverse", .bool true)]) _ _ _
  refine SrtR.sorted_ordK (b := true) (ltv := ltT s.heap B) (fun _ => rfl) (PyProof.Rows.args_sorted_rev _ _) (fun _ => PyProof.Rows.args_list_sort_rev _ _) (swo_T s.heap B) hl.isList (by rw [← rv.length]; exact hz) (fun h2 h1 a' ha' kk => ?_) fun out o1 o2 => ?_
  · have keep : ∀ b o, s.heap.get? b = some o → o.cls = .type "tuple" → h1.get? b = some o := fun b o e _ => (kk b o e).2
    refine tups_sortable (s := { s with heap := h1 }) hd h2 (tups.keeps keep) (fun v hv => ?_) fun o e => ?_
    · obtain ⟨ns, tp, _⟩ := tups v hv
      rw [tp.ints, (tp.keeps keep).ints]
    · have e' : some o = some (seqObj "list" its.toArray 0) := e.symm.trans ha'
      cases e'
      intro c
      exact absurd (Value.type.inj c) (by decide)
  · obtain ⟨ep, he'⟩ := PyProof.Rows.sortedAll_at s.heap its out.toArray.reverse
    have pm : out.Perm its := o2.perm.trans (List.reverse_perm _)
    have h3 : ∀ u ∈ out.reverse, ∃ a, u = Value.ref a := fun u hu => e2 u (pm.mem_iff.mp (List.mem_reverse.mp hu))
    have hp : (out.reverse.map bkV).Perm xs := by
      rw [e1]
      exact ((List.reverse_perm out).trans pm).map bkV
    have hlen : (out.reverse.map bkV).length ≤ sizeLine := by
      rw [hp.length_eq]
      exact hz
    have ea : out.reverse.toArray = out.toArray.reverse := by
      apply Array.ext'
      rw [Array.toList_reverse]
    refine ⟨.ref _, upd H (s.heap.objs.size + 1) (.lst (out.reverse.map bkV)), I.laid (t' := s.toks) (fun _ _ => PyProof.Rows.sortedAll_old) (Nat.le_succ _) ⟨hlen, out.reverse, ep, bkV_vals h3, by rw [ea]; exact he'⟩, rfl, q _ _ hp ?_ (I.hok.fresh (Nat.le_succ _))⟩
    rw [List.pairwise_map, List.pairwise_reverse]
    refine o1.imp fun {u v} huv n m hn hm => ?_
    obtain ⟨t, et, ht⟩ := hn
    obtain ⟨t', et', ht'⟩ := hm
    have i1 : TS.intsOf s.heap v = n := by
      rw [bkV_ref et]
      exact (tupI_raw I ht).ints
    have i2 : TS.intsOf s.heap u = m := by
      rw [bkV_ref et']
      exact (tupI_raw I ht').ints
    have z := of_decide_eq_false huv
    rw [i1, i2] at z
    omega
end OC
/-! Linear algebra over Fin p, vectors as functions: spans, plain forms, their uniqueness. Core Lean alone. -/
namespace Lin
set_option linter.all false
section
variable {p : Nat} [NeZero p]
abbrev Vec (p : Nat) := Nat → Fin p
def zeroV : Vec p := fun _ => 0
def addV (x y : Vec p) : Vec p := fun i => x i + y i
def mulV (c : Fin p) (x : Vec p) : Vec p := fun i => c * x i
/-- closed under sums and multiples -/
structure Sub (S : Vec p → Prop) : Prop where
  zero : S zeroV
  add : ∀ {x y}, S x → S y → S (addV x y)
  mul : ∀ (c : Fin p) {x}, S x → S (mulV c x)
def lin : List (Fin p) → List (Vec p) → Vec p
  | f :: fs, v :: vs => addV (mulV f v) (lin fs vs)
  | _, _ => zeroV
def Spn (vs : List (Vec p)) (x : Vec p) : Prop := ∃ fs : List (Fin p), x = lin fs vs
theorem zero_add (x : Vec p) : addV zeroV x = x := by
  funext i
  show (0 : Fin p) + x i = x i
  grind
theorem lin_nil (vs : List (Vec p)) : lin [] vs = zeroV := by cases vs <;> rfl
theorem lin_nil' (fs : List (Fin p)) : lin fs ([] : List (Vec p)) = zeroV := by cases fs <;> rfl
def addF : List (Fin p) → List (Fin p) → List (Fin p)
  | f :: fs, g :: gs => (f + g) :: addF fs gs
  | [], gs => gs
  | fs, [] => fs
theorem lin_add : ∀ (vs : List (Vec p)) (fs gs : List (Fin p)), addV (lin fs vs) (lin gs vs) = lin (addF fs gs) vs
  | [], fs, gs => by
    rw [lin_nil', lin_nil', lin_nil', zero_add]
  | v :: vs, [], gs => by
    rw [lin_nil, zero_add]
    simp only [addF]
  | v :: vs, f :: fs, [] => by
    rw [lin_nil]
    simp only [addF]
    funext i
    show lin (f :: fs) (v :: vs) i + (0 : Fin p) = lin (f :: fs) (v :: vs) i
    grind
  | v :: vs, f :: fs, g :: gs => by
    have ih := lin_add vs fs gs
    simp only [addF, lin]
    rw [← ih]
    funext i
    show f * v i + lin fs vs i + (g * v i + lin gs vs i) = (f + g) * v i + (lin fs vs i + lin gs vs i)
    grind
theorem lin_mul (c : Fin p) : ∀ (vs : List (Vec p)) (fs : List (Fin p)), mulV c (lin fs vs) = lin (fs.map (c * ·)) vs
  | [], fs => by
    rw [lin_nil', lin_nil']
    funext i
    show c * (0 : Fin p) = 0
    grind
  | v :: vs, [] => by
    rw [List.map_nil, lin_nil]
    funext i
    show c * (0 : Fin p) = 0
    grind
  | v :: vs, f :: fs => by
    have ih := lin_mul c vs fs
    rw [List.map_cons]
    simp only [lin]
    rw [← ih]
    funext i
    show c * (f * v i + lin fs vs i) = c * f * v i + c * lin fs vs i
    grind
theorem spn_sub (vs : List (Vec p)) : Sub (Spn vs) where
  zero := ⟨[], (lin_nil vs).symm⟩
  add := by
    rintro x y ⟨fs, rfl⟩ ⟨gs, rfl⟩
    exact ⟨_, lin_add vs fs gs⟩
  mul := by
    rintro c x ⟨fs, rfl⟩
    exact ⟨_, lin_mul c vs fs⟩
theorem spn_tail {v : Vec p} {vs : List (Vec p)} {x : Vec p} (h : Spn vs x) : Spn (v :: vs) x := by
  obtain ⟨fs, rfl⟩ := h
  refine ⟨0 :: fs, ?_⟩
  funext i
  show lin fs vs i = 0 * v i + lin fs vs i
  grind
theorem spn_mem : ∀ {vs : List (Vec p)} {v : Vec p}, v ∈ vs → Spn vs v
  | w :: vs, v, h => by
    rcases List.mem_cons.mp h with rfl | h
    · refine ⟨[1], ?_⟩
      funext i
      show v i = 1 * v i + lin [] vs i
      rw [lin_nil]
      show v i = 1 * v i + (0 : Fin p)
      grind
    · exact spn_tail (spn_mem h)
theorem spn_le {S : Vec p → Prop} (hS : Sub S) : ∀ {vs : List (Vec p)}, (∀ v ∈ vs, S v) → ∀ {x}, Spn vs x → S x
  | [], _, x, ⟨fs, e⟩ => by
    rw [e, lin_nil']
    exact hS.zero
  | v :: vs, h, x, ⟨[], e⟩ => by
    rw [e, lin_nil]
    exact hS.zero
  | v :: vs, h, x, ⟨f :: fs, e⟩ => by
    rw [e]
    exact hS.add (hS.mul f (h v List.mem_cons_self)) (spn_le hS (fun w hw => h w (List.mem_cons_of_mem _ hw)) ⟨fs, rfl⟩)
theorem spn_sub_of {vs ws : List (Vec p)} (h : ∀ v ∈ vs, Spn ws v) {x : Vec p} (hx : Spn vs x) : Spn ws x := spn_le (spn_sub ws) h hx
theorem Sub.less {S : Vec p → Prop} (hS : Sub S) {x y : Vec p} (c : Fin p) (hx : S x) (hy : S y) : S (fun i => x i - c * y i) := by
  have h := hS.add hx (hS.mul (-c) hy)
  have e : addV x (mulV (-c) y) = fun i => x i - c * y i := by
    funext i
    show x i + -c * y i = x i - c * y i
    grind
  rw [e] at h
  exact h
/-! ### plain forms: pairs of a first place and a row -/
structure PF (n : Nat) (bs : List (Nat × Vec p)) : Prop where
  inc : bs.Pairwise (fun a b => a.1 < b.1)
  lt : ∀ b ∈ bs, b.1 < n
  one : ∀ b ∈ bs, b.2 b.1 = 1
  low : ∀ b ∈ bs, ∀ i, i < b.1 → b.2 i = 0
  off : ∀ b ∈ bs, ∀ c ∈ bs, b.1 ≠ c.1 → b.2 c.1 = 0
  wid : ∀ b ∈ bs, ∀ i, n ≤ i → b.2 i = 0
/-- the part of x that the rows tell by its rests at their first places -/
def red : List (Nat × Vec p) → Vec p → Vec p
  | [], _ => zeroV
  | b :: bs, x => addV (mulV (x b.1) b.2) (red bs x)
theorem red_add : ∀ (bs : List (Nat × Vec p)) (x y : Vec p), red bs (addV x y) = addV (red bs x) (red bs y)
  | [], x, y => by simp only [red]; rw [zero_add]
  | b :: bs, x, y => by
    simp only [red]
    rw [red_add bs x y]
    funext i
    show (x b.1 + y b.1) * b.2 i + (red bs x i + red bs y i) = x b.1 * b.2 i + red bs x i + (y b.1 * b.2 i + red bs y i)
    grind
theorem red_mul (c : Fin p) : ∀ (bs : List (Nat × Vec p)) (x : Vec p), red bs (mulV c x) = mulV c (red bs x)
  | [], x => by
    simp only [red]
    funext i
    show (0 : Fin p) = c * 0
    grind
  | b :: bs, x => by
    simp only [red]
    rw [red_mul c bs x]
    funext i
    show c * x b.1 * b.2 i + c * red bs x i = c * (x b.1 * b.2 i + red bs x i)
    grind
theorem red_zero (bs : List (Nat × Vec p)) : red bs zeroV = zeroV := by
  have h := red_mul (0 : Fin p) bs zeroV
  have e : mulV (0 : Fin p) (zeroV : Vec p) = zeroV := by
    funext i
    show (0 : Fin p) * 0 = 0
    grind
  rw [e] at h
  rw [h]
  funext i
  show (0 : Fin p) * red bs zeroV i = 0
  grind
theorem red_none : ∀ (l : List (Nat × Vec p)) (x : Vec p), (∀ b ∈ l, x b.1 = 0) → red l x = zeroV
  | [], _, _ => rfl
  | b :: l, x, h => by
    simp only [red]
    rw [red_none l x fun c hc => h c (List.mem_cons_of_mem _ hc), h b List.mem_cons_self]
    funext i
    show (0 : Fin p) * b.2 i + 0 = 0
    grind
theorem red_one : ∀ (l : List (Nat × Vec p)) (b : Nat × Vec p), b ∈ l → l.Pairwise (fun a c => a.1 < c.1) → b.2 b.1 = 1 → (∀ c ∈ l, b.1 ≠ c.1 → b.2 c.1 = 0) → red l b.2 = b.2
  | a :: l, b, hb, inc, h1, h0 => by
    have inc' := List.pairwise_cons.mp inc
    simp only [red]
    rcases List.mem_cons.mp hb with rfl | hb
    · rw [red_none l b.2 fun c hc => h0 c (List.mem_cons_of_mem _ hc) (Nat.ne_of_lt (inc'.1 c hc)), h1]
      funext i
      show (1 : Fin p) * b.2 i + 0 = b.2 i
      grind
    · rw [red_one l b hb inc'.2 h1 fun c hc => h0 c (List.mem_cons_of_mem _ hc), h0 a List.mem_cons_self (Nat.ne_of_gt (inc'.1 b hb))]
      funext i
      show (0 : Fin p) * a.2 i + b.2 i = b.2 i
      grind
/-- a row of the room is told by its rests at the first places -/
theorem PF.told {n : Nat} {bs : List (Nat × Vec p)} (h : PF n bs) {x : Vec p} (hx : Spn (bs.map (·.2)) x) : red bs x = x := by
  have hS : Sub (fun x : Vec p => red bs x = x) := by
    refine ⟨red_zero bs, fun {x y} hx hy => ?_, fun c {x} hx => ?_⟩
    · show red bs (addV x y) = addV x y
      rw [red_add, hx, hy]
    · show red bs (mulV c x) = mulV c x
      rw [red_mul, hx]
  refine spn_le hS (fun v hv => ?_) hx
  obtain ⟨b, hb, rfl⟩ := List.mem_map.mp hv
  exact red_one bs b hb h.inc (h.one b hb) fun c hc ne => h.off b hb c hc ne
theorem spn_red : ∀ (bs : List (Nat × Vec p)) (x : Vec p), Spn (bs.map (·.2)) (red bs x)
  | [], x => (spn_sub _).zero
  | b :: bs, x => (spn_sub _).add ((spn_sub _).mul _ (spn_mem (by simp))) (spn_tail (spn_red bs x))
/-- a first place of a row -/
def Lead (x : Vec p) (j : Nat) : Prop := x j ≠ 0 ∧ ∀ i, i < j → x i = 0
theorem red_low : ∀ (l : List (Nat × Vec p)) (x : Vec p) (j : Nat), (∀ i, i < j → x i = 0) → (∀ b ∈ l, b.1 ≠ j) → (∀ b ∈ l, ∀ i, i < b.1 → b.2 i = 0) → red l x j = 0
  | [], _, _, _, _, _ => rfl
  | b :: l, x, j, hx, hn, hl => by
    have ih := red_low l x j hx (fun c hc => hn c (List.mem_cons_of_mem _ hc)) fun c hc => hl c (List.mem_cons_of_mem _ hc)
    show x b.1 * b.2 j + red l x j = 0
    rw [ih]
    rcases Nat.lt_or_ge b.1 j with h | h
    · rw [hx b.1 h]
      grind
    · have h2 : j < b.1 := Nat.lt_of_le_of_ne h (Ne.symm (hn b List.mem_cons_self))
      rw [hl b List.mem_cons_self j h2]
      grind
theorem PF.lead {n : Nat} {bs : List (Nat × Vec p)} (h : PF n bs) {x : Vec p} {j : Nat} (hx : Spn (bs.map (·.2)) x) (hj : Lead x j) : ∃ b ∈ bs, b.1 = j := by
  apply Classical.byContradiction
  intro hn
  have e := h.told hx
  apply hj.1
  rw [← e]
  exact red_low bs x j hj.2 (fun b hb e => hn ⟨b, hb, e⟩) h.low
theorem PF.leads {n : Nat} {bs : List (Nat × Vec p)} (h : PF n bs) (h1 : (1 : Fin p) ≠ 0) {b : Nat × Vec p} (hb : b ∈ bs) : Lead b.2 b.1 := ⟨by rw [h.one b hb]; exact h1, h.low b hb⟩
theorem sorted_eq : ∀ {l m : List Nat}, l.Pairwise (· < ·) → m.Pairwise (· < ·) → (∀ x, x ∈ l ↔ x ∈ m) → l = m
  | [], [], _, _, _ => rfl
  | [], b :: m, _, _, h => by simpa using (h b).mpr List.mem_cons_self
  | a :: l, [], _, _, h => by simpa using (h a).mp List.mem_cons_self
  | a :: l, b :: m, hl, hm, h => by
    have hl' := List.pairwise_cons.mp hl
    have hm' := List.pairwise_cons.mp hm
    have e : a = b := by
      rcases List.mem_cons.mp ((h a).mp List.mem_cons_self) with e | e
      · exact e
      · rcases List.mem_cons.mp ((h b).mpr List.mem_cons_self) with e2 | e2
        · exact e2.symm
        · have := hm'.1 a e
          have := hl'.1 b e2
          omega
    subst e
    congr 1
    refine sorted_eq hl'.2 hm'.2 fun x => ⟨fun hx => ?_, fun hx => ?_⟩
    · rcases List.mem_cons.mp ((h x).mp (List.mem_cons_of_mem _ hx)) with e | e
      · have := hl'.1 x hx
        omega
      · exact e
    · rcases List.mem_cons.mp ((h x).mpr (List.mem_cons_of_mem _ hx)) with e | e
      · have := hm'.1 x hx
        omega
      · exact e
theorem pairs_eq : ∀ {bs cs : List (Nat × Vec p)}, bs.map (·.1) = cs.map (·.1) → (∀ b ∈ bs, ∀ c ∈ cs, b.1 = c.1 → b.2 = c.2) → bs = cs
  | [], [], _, _ => rfl
  | [], _ :: _, e, _ => by cases e
  | _ :: _, [], e, _ => by cases e
  | b :: bs, c :: cs, e, h => by
    rw [List.map_cons, List.map_cons] at e
    have e1 : b.1 = c.1 := (List.cons.inj e).1
    have e2 := h b List.mem_cons_self c List.mem_cons_self e1
    have e3 : b = c := by
      cases b
      cases c
      simp only at e1 e2
      rw [e1, e2]
    rw [e3, pairs_eq (List.cons.inj e).2 fun x hx y hy => h x (List.mem_cons_of_mem _ hx) y (List.mem_cons_of_mem _ hy)]
/-- each room has just one plain form -/
theorem PF.uniq {n m : Nat} {bs cs : List (Nat × Vec p)} (h1 : (1 : Fin p) ≠ 0) (hb : PF n bs) (hc : PF m cs) (h : ∀ x, Spn (bs.map (·.2)) x ↔ Spn (cs.map (·.2)) x) : bs = cs := by
  have inB : ∀ b ∈ bs, ∃ c ∈ cs, c.1 = b.1 := fun b m => hc.lead ((h _).mp (spn_mem (List.mem_map_of_mem m))) (hb.leads h1 m)
  have inC : ∀ c ∈ cs, ∃ b ∈ bs, b.1 = c.1 := fun c m => hb.lead ((h _).mpr (spn_mem (List.mem_map_of_mem m))) (hc.leads h1 m)
  have ef : bs.map (·.1) = cs.map (·.1) := by
    refine sorted_eq ?_ ?_ fun x => ⟨fun hx => ?_, fun hx => ?_⟩
    · exact List.pairwise_map.mpr hb.inc
    · exact List.pairwise_map.mpr hc.inc
    · obtain ⟨b, m, rfl⟩ := List.mem_map.mp hx
      obtain ⟨c, m', e⟩ := inB b m
      exact List.mem_map.mpr ⟨c, m', e⟩
    · obtain ⟨c, m, rfl⟩ := List.mem_map.mp hx
      obtain ⟨b, m', e⟩ := inC c m
      exact List.mem_map.mpr ⟨b, m', e⟩
  refine pairs_eq ef fun b mb c mc e => ?_
  have hx : Spn (cs.map (·.2)) b.2 := (h _).mp (spn_mem (List.mem_map_of_mem mb))
  have t := hc.told hx
  rw [← t]
  -- b's rests at the first places of cs are those of c
  have key : ∀ l : List (Nat × Vec p), (∀ d ∈ l, b.2 d.1 = c.2 d.1) → red l b.2 = red l c.2 := by
    intro l
    induction l with
    | nil => intro _; rfl
    | cons d l ih =>
      intro hd
      simp only [red]
      rw [hd d List.mem_cons_self, ih fun x hx => hd x (List.mem_cons_of_mem _ hx)]
  rw [key cs fun d md => ?_]
  · exact red_one cs c mc hc.inc (hc.one c mc) fun d md ne => hc.off c mc d md ne
  · by_cases ne : b.1 = d.1
    · rw [← ne, hb.one b mb, e, hc.one c mc]
    · obtain ⟨b', mb', e'⟩ := inC d md
      rw [← e', hb.off b mb b' mb' (by rw [e']; exact ne), e', hc.off c mc d md (by rw [← e]; exact ne)]
theorem red_at : ∀ (l : List (Nat × Vec p)) (x : Vec p) (c : Nat × Vec p), c ∈ l → l.Pairwise (fun a b => a.1 < b.1) → c.2 c.1 = 1 → (∀ b ∈ l, b.1 ≠ c.1 → b.2 c.1 = 0) → red l x c.1 = x c.1
  | a :: l, x, c, hc, inc, h1, h0 => by
    have inc' := List.pairwise_cons.mp inc
    show x a.1 * a.2 c.1 + red l x c.1 = x c.1
    rcases List.mem_cons.mp hc with rfl | hc
    · have z : ∀ m : List (Nat × Vec p), (∀ b ∈ m, b.2 c.1 = 0) → red m x c.1 = 0 := by
        intro m
        induction m with
        | nil => intro _; rfl
        | cons b m ih =>
          intro hm
          show x b.1 * b.2 c.1 + red m x c.1 = 0
          rw [hm b List.mem_cons_self, ih fun y hy => hm y (List.mem_cons_of_mem _ hy)]
          grind
      rw [z l fun b hb => h0 b (List.mem_cons_of_mem _ hb) (Nat.ne_of_gt (inc'.1 b hb)), h1]
      grind
    · rw [red_at l x c hc inc'.2 h1 fun b hb => h0 b (List.mem_cons_of_mem _ hb), h0 a List.mem_cons_self (Nat.ne_of_lt (inc'.1 c hc))]
      grind
theorem PF.at {n : Nat} {bs : List (Nat × Vec p)} (h : PF n bs) (x : Vec p) {c : Nat × Vec p} (hc : c ∈ bs) : red bs x c.1 = x c.1 :=
  red_at bs x c hc h.inc (h.one c hc) fun b hb ne => h.off b hb c hc ne
theorem sorted_len : ∀ {l m : List Nat}, l.Pairwise (· < ·) → m.Pairwise (· < ·) → (∀ x ∈ l, x ∈ m) → l.length ≤ m.length ∧ (m.length ≤ l.length → ∀ x ∈ m, x ∈ l)
  | [], m, _, _, _ => ⟨Nat.zero_le _, fun h x hx => by
      cases m with
      | nil => exact hx
      | cons a b => simp at h⟩
  | a :: l, [], _, _, h => by simpa using h a List.mem_cons_self
  | a :: l, b :: m, hl, hm, h => by
    have hl' := List.pairwise_cons.mp hl
    have hm' := List.pairwise_cons.mp hm
    by_cases e : a = b
    · subst e
      have ih := sorted_len hl'.2 hm'.2 fun x hx => by
        rcases List.mem_cons.mp (h x (List.mem_cons_of_mem _ hx)) with e | e
        · have := hl'.1 x hx
          omega
        · exact e
      refine ⟨by simpa using ih.1, fun hle x hx => ?_⟩
      rcases List.mem_cons.mp hx with rfl | hx
      · exact List.mem_cons_self
      · exact List.mem_cons_of_mem _ (ih.2 (by simpa using hle) x hx)
    · have ha : a ∈ m := by
        rcases List.mem_cons.mp (h a List.mem_cons_self) with z | z
        · exact absurd z e
        · exact z
      have ih := sorted_len (l := a :: l) hl hm'.2 fun x hx => by
        rcases List.mem_cons.mp (h x hx) with z | z
        · rcases List.mem_cons.mp hx with y | y
          · omega
          · have := hl'.1 x y
            have := hm'.1 a ha
            omega
        · exact z
      refine ⟨Nat.le_succ_of_le ih.1, fun hle => ?_⟩
      have := ih.1
      simp only [List.length_cons] at this hle
      omega
theorem PF.firsts_sub {n m : Nat} {bs cs : List (Nat × Vec p)} (hb : PF n bs) (hc : PF m cs) (h1 : (1 : Fin p) ≠ 0) (h : ∀ x, Spn (bs.map (·.2)) x → Spn (cs.map (·.2)) x) : ∀ j ∈ bs.map (·.1), j ∈ cs.map (·.1) := by
  intro j hj
  obtain ⟨b, mb, rfl⟩ := List.mem_map.mp hj
  obtain ⟨c, mc, e⟩ := hc.lead (h _ (spn_mem (List.mem_map_of_mem mb))) (hb.leads h1 mb)
  exact List.mem_map.mpr ⟨c, mc, e⟩
theorem PF.len_le {n m : Nat} {bs cs : List (Nat × Vec p)} (hb : PF n bs) (hc : PF m cs) (h1 : (1 : Fin p) ≠ 0) (h : ∀ x, Spn (bs.map (·.2)) x → Spn (cs.map (·.2)) x) : bs.length ≤ cs.length := by
  have := (sorted_len (List.pairwise_map.mpr hb.inc) (List.pairwise_map.mpr hc.inc) (hb.firsts_sub hc h1 h)).1
  rw [List.length_map, List.length_map] at this
  exact this
/-- one room within another, with as many first places: the same -/
theorem PF.same_of_len {n m : Nat} {bs cs : List (Nat × Vec p)} (hb : PF n bs) (hc : PF m cs) (h1 : (1 : Fin p) ≠ 0) (h : ∀ x, Spn (bs.map (·.2)) x → Spn (cs.map (·.2)) x) (hl : cs.length ≤ bs.length) {x : Vec p} (hx : Spn (cs.map (·.2)) x) : Spn (bs.map (·.2)) x := by
  have back := (sorted_len (List.pairwise_map.mpr hb.inc) (List.pairwise_map.mpr hc.inc) (hb.firsts_sub hc h1 h)).2 (by rw [List.length_map, List.length_map]; exact hl)
  have hy : Spn (cs.map (·.2)) (fun i => x i - 1 * red bs x i) := (spn_sub _).less 1 hx (h _ (spn_red bs x))
  have t := hc.told hy
  have z : red cs (fun i => x i - 1 * red bs x i) = zeroV := red_none cs _ fun c mc => by
    obtain ⟨b, mb, e⟩ := List.mem_map.mp (back c.1 (List.mem_map_of_mem mc))
    have := hb.at x mb
    show x c.1 - 1 * red bs x c.1 = 0
    rw [← e, this]
    grind
  rw [z] at t
  have e : x = red bs x := by
    funext i
    have := congrFun t i
    have this : (0 : Fin p) = x i - 1 * red bs x i := this
    grind
  rw [e]
  exact spn_red bs x
/-! ### taking off, place by place -/
variable (inv : Fin p → Fin p)
def lessV (x own : Vec p) (j : Nat) : Vec p := fun i => x i - x j * own i
def ownV (a : Vec p) (j : Nat) : Vec p := mulV (inv (a j)) a
def stepV (st : List (Vec p) × List (Nat × Vec p)) (k : Nat) : List (Vec p) × List (Nat × Vec p) :=
  match st.1.filter (fun x => decide (x k ≠ 0)) with
  | [] => st
  | a :: _ => (st.1.map fun x => lessV x (ownV inv a k) k, (st.2.map fun b => (b.1, lessV b.2 (ownV inv a k) k)) ++ [(k, ownV inv a k)])
def plainV (n : Nat) (vs : List (Vec p)) : List (Nat × Vec p) := ((List.range n).foldl (stepV inv) (vs, [])).2
structure StepOk (n k : Nat) (vs : List (Vec p)) (st : List (Vec p) × List (Nat × Vec p)) : Prop where
  low : ∀ x ∈ st.1, ∀ i, i < k → x i = 0
  wid : ∀ x ∈ st.1, ∀ i, n ≤ i → x i = 0
  pf : PF n st.2
  below : ∀ b ∈ st.2, b.1 < k
  to : ∀ x, Spn (st.1 ++ st.2.map (·.2)) x → Spn vs x
  from_ : ∀ x, Spn vs x → Spn (st.1 ++ st.2.map (·.2)) x
theorem filter_head {α : Type} {q : α → Bool} {l : List α} {a : α} {r : List α} (h : l.filter q = a :: r) : a ∈ l ∧ q a = true := by
  have : a ∈ l.filter q := by rw [h]; exact List.mem_cons_self
  exact List.mem_filter.mp this
theorem step_ok {n k : Nat} {vs : List (Vec p)} {st : List (Vec p) × List (Nat × Vec p)} (hinv : ∀ a : Fin p, a ≠ 0 → inv a * a = 1) (hk : k < n) (h : StepOk n k vs st) : StepOk n (k + 1) vs (stepV inv st k) := by
  unfold stepV
  split
  · rename_i hf
    refine ⟨fun x hx i hi => ?_, h.wid, h.pf, fun b hb => Nat.lt_succ_of_lt (h.below b hb), h.to, h.from_⟩
    by_cases e : i = k
    · subst e
      apply Classical.byContradiction
      intro hne
      have : x ∈ st.1.filter (fun x => decide (x i ≠ 0)) := List.mem_filter.mpr ⟨hx, decide_eq_true hne⟩
      rw [hf] at this
      cases this
    · exact h.low x hx i (by omega)
  · rename_i a r hf
    obtain ⟨ha, hq⟩ := filter_head hf
    have hak : a k ≠ 0 := of_decide_eq_true hq
    have ok1 : ownV inv a k k = 1 := hinv _ hak
    have okl : ∀ i, i < k → ownV inv a k i = 0 := fun i hi => by
      show inv (a k) * a i = 0
      rw [h.low a ha i hi]
      grind
    have okw : ∀ i, n ≤ i → ownV inv a k i = 0 := fun i hi => by
      show inv (a k) * a i = 0
      rw [h.wid a ha i hi]
      grind
    have less_k : ∀ x : Vec p, lessV x (ownV inv a k) k k = 0 := fun x => by
      show x k - x k * ownV inv a k k = 0
      rw [ok1]
      grind
    have less_lt : ∀ (x : Vec p) i, i < k → lessV x (ownV inv a k) k i = x i := fun x i hi => by
      show x i - x k * ownV inv a k i = x i
      rw [okl i hi]
      grind
    have less_w : ∀ (x : Vec p) i, n ≤ i → x i = 0 → lessV x (ownV inv a k) k i = 0 := fun x i hi hx => by
      show x i - x k * ownV inv a k i = 0
      rw [okw i hi, hx]
      grind
    have own_in : Spn (st.1 ++ st.2.map (·.2)) (ownV inv a k) := (spn_sub _).mul _ (spn_mem (List.mem_append_left _ ha))
    generalize ownV inv a k = own at *
    refine ⟨?_, ?_, ⟨?_, ?_, ?_, ?_, ?_, ?_⟩, ?_, ?_, ?_⟩
    · intro x hx i hi
      obtain ⟨y, my, rfl⟩ := List.mem_map.mp hx
      by_cases e : i = k
      · subst e
        exact less_k y
      · rw [less_lt y i (by omega)]
        exact h.low y my i (by omega)
    · intro x hx i hi
      obtain ⟨y, my, rfl⟩ := List.mem_map.mp hx
      exact less_w y i hi (h.wid y my i hi)
    · refine List.pairwise_append.mpr ⟨?_, List.pairwise_singleton _ _, fun b hb c hc => ?_⟩
      · exact List.pairwise_map.mpr h.pf.inc
      · obtain ⟨b', mb, rfl⟩ := List.mem_map.mp hb
        have : c = (k, own) := by simpa using hc
        subst this
        exact h.below b' mb
    · intro b hb
      rcases List.mem_append.mp hb with hb | hb
      · obtain ⟨b', mb, rfl⟩ := List.mem_map.mp hb
        exact h.pf.lt b' mb
      · have : b = (k, own) := by simpa using hb
        subst this
        exact hk
    · intro b hb
      rcases List.mem_append.mp hb with hb | hb
      · obtain ⟨b', mb, rfl⟩ := List.mem_map.mp hb
        show lessV b'.2 own k b'.1 = 1
        rw [less_lt _ _ (h.below b' mb)]
        exact h.pf.one b' mb
      · have : b = (k, own) := by simpa using hb
        subst this
        exact ok1
    · intro b hb i hi
      rcases List.mem_append.mp hb with hb | hb
      · obtain ⟨b', mb, rfl⟩ := List.mem_map.mp hb
        have hi : i < b'.1 := hi
        show lessV b'.2 own k i = 0
        rw [less_lt _ _ (Nat.lt_trans hi (h.below b' mb))]
        exact h.pf.low b' mb i hi
      · have : b = (k, own) := by simpa using hb
        subst this
        exact okl i hi
    · intro b hb c hc ne
      rcases List.mem_append.mp hb with hb | hb
      · obtain ⟨b', mb, rfl⟩ := List.mem_map.mp hb
        rcases List.mem_append.mp hc with hc | hc
        · obtain ⟨c', mc, rfl⟩ := List.mem_map.mp hc
          show lessV b'.2 own k c'.1 = 0
          rw [less_lt _ _ (h.below c' mc)]
          exact h.pf.off b' mb c' mc ne
        · have : c = (k, own) := by simpa using hc
          subst this
          exact less_k b'.2
      · have : b = (k, own) := by simpa using hb
        subst this
        rcases List.mem_append.mp hc with hc | hc
        · obtain ⟨c', mc, rfl⟩ := List.mem_map.mp hc
          exact okl c'.1 (h.below c' mc)
        · have : c = (k, own) := by simpa using hc
          subst this
          exact absurd rfl ne
    · intro b hb i hi
      rcases List.mem_append.mp hb with hb | hb
      · obtain ⟨b', mb, rfl⟩ := List.mem_map.mp hb
        exact less_w b'.2 i hi (h.pf.wid b' mb i hi)
      · have : b = (k, own) := by simpa using hb
        subst this
        exact okw i hi
    · intro b hb
      rcases List.mem_append.mp hb with hb | hb
      · obtain ⟨b', mb, rfl⟩ := List.mem_map.mp hb
        exact Nat.lt_succ_of_lt (h.below b' mb)
      · have : b = (k, own) := by simpa using hb
        subst this
        exact Nat.lt_succ_self k
    · intro x hx
      refine h.to x (spn_sub_of (fun v hv => ?_) hx)
      rcases List.mem_append.mp hv with hv | hv
      · obtain ⟨y, my, rfl⟩ := List.mem_map.mp hv
        exact (spn_sub _).less (y k) (spn_mem (List.mem_append_left _ my)) own_in
      · obtain ⟨b, mb, rfl⟩ := List.mem_map.mp hv
        rcases List.mem_append.mp mb with mb | mb
        · obtain ⟨b', mb', rfl⟩ := List.mem_map.mp mb
          exact (spn_sub _).less (b'.2 k) (spn_mem (List.mem_append_right _ (List.mem_map_of_mem mb'))) own_in
        · have : b = (k, own) := by simpa using mb
          subst this
          exact own_in
    · intro x hx
      have own_in' : Spn (st.1.map (fun x => lessV x own k) ++ ((st.2.map fun b => (b.1, lessV b.2 own k)) ++ [(k, own)]).map (·.2)) own := spn_mem (by simp)
      have back : ∀ y : Vec p, Spn (st.1.map (fun x => lessV x own k) ++ ((st.2.map fun b => (b.1, lessV b.2 own k)) ++ [(k, own)]).map (·.2)) (lessV y own k) → Spn (st.1.map (fun x => lessV x own k) ++ ((st.2.map fun b => (b.1, lessV b.2 own k)) ++ [(k, own)]).map (·.2)) y := by
        intro y hy
        have := (spn_sub _).add hy ((spn_sub _).mul (y k) own_in')
        have e : addV (lessV y own k) (mulV (y k) own) = y := by
          funext i
          show y i - y k * own i + y k * own i = y i
          grind
        rw [e] at this
        exact this
      refine spn_sub_of (fun v hv => ?_) (h.from_ x hx)
      rcases List.mem_append.mp hv with hv | hv
      · exact back v (spn_mem (List.mem_append_left _ (List.mem_map_of_mem hv)))
      · obtain ⟨b, mb, rfl⟩ := List.mem_map.mp hv
        refine back b.2 (spn_mem (List.mem_append_right _ ?_))
        refine List.mem_map.mpr ⟨(b.1, lessV b.2 own k), List.mem_append_left _ (List.mem_map.mpr ⟨b, mb, rfl⟩), rfl⟩
theorem steps_ok {n : Nat} {vs : List (Vec p)} (hinv : ∀ a : Fin p, a ≠ 0 → inv a * a = 1) (hw : ∀ x ∈ vs, ∀ i, n ≤ i → x i = 0) : ∀ k, k ≤ n → StepOk n k vs ((List.range k).foldl (stepV inv) (vs, []))
  | 0, _ => by
    refine ⟨fun x _ i hi => absurd hi (Nat.not_lt_zero i), hw, ⟨.nil, fun b h => (nomatch h), fun b h => (nomatch h), fun b h => (nomatch h), fun b h => (nomatch h), fun b h => (nomatch h)⟩, fun b h => (nomatch h), fun x hx => ?_, fun x hx => ?_⟩
    · simpa using hx
    · simpa using hx
  | k + 1, hk => by
    rw [List.range_succ, List.foldl_append]
    exact step_ok inv hinv (by omega) (steps_ok hinv hw k (by omega))
/-- taking off, place by place, tells the plain form of what the rows make -/
theorem plainV_pf {n : Nat} {vs : List (Vec p)} (hinv : ∀ a : Fin p, a ≠ 0 → inv a * a = 1) (hw : ∀ x ∈ vs, ∀ i, n ≤ i → x i = 0) : PF n (plainV inv n vs) := (steps_ok inv hinv hw n (Nat.le_refl n)).pf
theorem plainV_spn {n : Nat} {vs : List (Vec p)} (hinv : ∀ a : Fin p, a ≠ 0 → inv a * a = 1) (hw : ∀ x ∈ vs, ∀ i, n ≤ i → x i = 0) (x : Vec p) : Spn ((plainV inv n vs).map (·.2)) x ↔ Spn vs x := by
  have h := steps_ok inv hinv hw n (Nat.le_refl n)
  constructor
  · intro hx
    refine h.to x (spn_sub_of (fun v hv => spn_mem (List.mem_append_right _ hv)) hx)
  · intro hx
    refine spn_sub_of (fun v hv => ?_) (h.from_ x hx)
    rcases List.mem_append.mp hv with hv | hv
    · have e : v = zeroV := by
        funext i
        rcases Nat.lt_or_ge i n with hi | hi
        · exact h.low v hv i hi
        · exact h.wid v hv i hi
      rw [e]
      exact (spn_sub _).zero
    · exact spn_mem hv
theorem spn_append {vs ws : List (Vec p)} {S : Vec p → Prop} (hS : Sub S) (h1 : ∀ x, Spn vs x → S x) (h2 : ∀ x, Spn ws x → S x) (x : Vec p) (hx : Spn (vs ++ ws) x) : S x :=
  spn_le hS (fun v hv => (List.mem_append.mp hv).elim (fun h => h1 v (spn_mem h)) fun h => h2 v (spn_mem h)) hx
theorem spn_left {vs ws : List (Vec p)} {x : Vec p} (h : Spn vs x) : Spn (vs ++ ws) x := spn_sub_of (fun v hv => spn_mem (List.mem_append_left _ hv)) h
theorem spn_right {vs ws : List (Vec p)} {x : Vec p} (h : Spn ws x) : Spn (vs ++ ws) x := spn_sub_of (fun v hv => spn_mem (List.mem_append_right _ hv)) h
/-- a row more: as many rows as before just where it is made by them -/
theorem plainV_has {n : Nat} {vs : List (Vec p)} {v : Vec p} (h1 : (1 : Fin p) ≠ 0) (hinv : ∀ a : Fin p, a ≠ 0 → inv a * a = 1) (hw : ∀ x ∈ vs, ∀ i, n ≤ i → x i = 0) (hv : ∀ i, n ≤ i → v i = 0) :
    (plainV inv n (vs ++ [v])).length = (plainV inv n vs).length ↔ Spn vs v := by
  have hw' : ∀ x ∈ vs ++ [v], ∀ i, n ≤ i → x i = 0 := fun x hx => by
    rcases List.mem_append.mp hx with h | h
    · exact hw x h
    · have : x = v := by simpa using h
      rw [this]
      exact hv
  have A := plainV_pf inv hinv hw
  have B := plainV_pf inv hinv hw'
  have sa := plainV_spn inv hinv hw
  have sb := plainV_spn inv hinv hw'
  constructor
  · intro e
    have := A.same_of_len B h1 (fun x hx => (sb x).mpr (spn_left ((sa x).mp hx))) (Nat.le_of_eq e) ((sb v).mpr (spn_right (spn_mem (by simp))))
    exact (sa v).mp this
  · intro hs
    have same : ∀ x, Spn (vs ++ [v]) x ↔ Spn vs x := fun x => ⟨fun hx => spn_append (spn_sub vs) (fun _ h => h) (fun y hy => spn_sub_of (fun z hz => by
      have : z = v := by simpa using hz
      rw [this]
      exact hs) hy) x hx, spn_left⟩
    rw [B.uniq h1 A fun x => (sb x).trans ((same x).trans (sa x).symm)]
theorem plainV_len_le {n : Nat} {vs ws : List (Vec p)} (h1 : (1 : Fin p) ≠ 0) (hinv : ∀ a : Fin p, a ≠ 0 → inv a * a = 1) (hv : ∀ x ∈ vs, ∀ i, n ≤ i → x i = 0) (hw : ∀ x ∈ ws, ∀ i, n ≤ i → x i = 0) (h : ∀ x, Spn vs x → Spn ws x) : (plainV inv n vs).length ≤ (plainV inv n ws).length :=
  (plainV_pf inv hinv hv).len_le (plainV_pf inv hinv hw) h1 fun x hx => (plainV_spn inv hinv hw x).mpr (h x ((plainV_spn inv hinv hv x).mp hx))
end
end Lin
/-! rows of ints mod p as vectors; the law's own taking off -/
namespace OC
set_option linter.all false
open Lin
def ctr (p a : Int) : Int := (((List.range p.toNat).map fun (b : Nat) => (b : Int)).filter fun b => decide (a * b % p = 1)).headD 0
def lessR (p : Int) (x y : List Int) (j : Nat) : List Int := List.zipWith (fun r m => (r - x.getD j 0 * m) % p) x y
def ownR (p : Int) (a : List Int) (j : Nat) : List Int := a.map fun r => ctr p (a.getD j 0) * r % p
def stepR (p : Int) (st : List (List Int) × List (List Int)) (k : Nat) : List (List Int) × List (List Int) :=
  match st.1.filter (fun r => decide (r.getD k 0 ≠ 0)) with
  | [] => st
  | a :: _ => (st.1.map fun r => lessR p r (ownR p a k) k, (st.2.map fun r => lessR p r (ownR p a k) k) ++ [ownR p a k])
def plainR (p : Int) (n : Nat) (rows : List (List Int)) : List (List Int) := ((List.range n).foldl (stepR p) (rows, [])).2
/-- each rest but 0 has a contrary one -/
def Fld (p : Int) : Prop := 2 ≤ p ∧ ∀ a : Int, 1 ≤ a → a < p → ∃ b : Int, 1 ≤ b ∧ b < p ∧ a * b % p = 1
theorem ctr_ok {p a : Int} (h : Fld p) (h0 : 1 ≤ a) (h1 : a < p) : 0 ≤ ctr p a ∧ ctr p a < p ∧ a * ctr p a % p = 1 := by
  obtain ⟨b, b1, b2, b3⟩ := h.2 a h0 h1
  unfold ctr
  generalize hl : ((List.range p.toNat).map fun (b : Nat) => (b : Int)).filter (fun b => decide (a * b % p = 1)) = l
  have mem : ∀ x ∈ l, 0 ≤ x ∧ x < p ∧ a * x % p = 1 := by
    intro x hx
    rw [← hl] at hx
    obtain ⟨hx, hq⟩ := List.mem_filter.mp hx
    obtain ⟨i, hi, rfl⟩ := List.mem_map.mp hx
    have := List.mem_range.mp hi
    exact ⟨by omega, by omega, of_decide_eq_true hq⟩
  cases l with
  | nil =>
    have : b ∈ ((List.range p.toNat).map fun (b : Nat) => (b : Int)).filter (fun b => decide (a * b % p = 1)) := List.mem_filter.mpr ⟨List.mem_map.mpr ⟨b.toNat, List.mem_range.mpr (by omega), by omega⟩, decide_eq_true b3⟩
    rw [hl] at this
    cases this
  | cons x r => exact mem x List.mem_cons_self
theorem gd_lt {r : List Int} {i : Nat} (h : i < r.length) : r.getD i 0 = r[i] := by
  rw [List.getD_eq_getElem?_getD, List.getElem?_eq_getElem h]
  rfl
theorem gd_ge {r : List Int} {i : Nat} (h : r.length ≤ i) : r.getD i 0 = 0 := by
  rw [List.getD_eq_getElem?_getD, List.getElem?_eq_none h]
  rfl
section
variable {q : Nat} [NeZero q]
theorem q_pos : (0 : Int) < q := by
  have := Nat.pos_of_ne_zero (NeZero.ne q)
  omega
def cF (x : Int) : Fin q := ⟨(x % q).toNat, by
  have h1 := Int.emod_lt_of_pos x (q_pos (q := q))
  have h2 := Int.emod_nonneg x (show (q : Int) ≠ 0 by have := q_pos (q := q); omega)
  omega⟩
theorem cF_val (x : Int) : ((cF (q := q) x).val : Int) = x % q := by
  show (((x % q).toNat : Nat) : Int) = x % q
  exact Int.toNat_of_nonneg (Int.emod_nonneg x (by have := q_pos (q := q); omega))
theorem fin_ext_int {a b : Fin q} (h : (a.val : Int) = (b.val : Int)) : a = b := Fin.ext (by omega)
theorem cF_add (x y : Int) : cF (q := q) (x + y) = cF x + cF y := by
  apply fin_ext_int
  rw [cF_val, Fin.val_add, Int.natCast_emod, Int.natCast_add, cF_val, cF_val, ← Int.add_emod]
theorem cF_mul (x y : Int) : cF (q := q) (x * y) = cF x * cF y := by
  apply fin_ext_int
  rw [cF_val, Fin.val_mul, Int.natCast_emod, Int.natCast_mul, cF_val, cF_val, ← Int.mul_emod]
theorem cF_mod (x : Int) : cF (q := q) (x % q) = cF x := by
  apply fin_ext_int
  rw [cF_val, cF_val, Int.emod_emod]
theorem cF_zero : cF (q := q) 0 = 0 := by
  have h := cF_add (q := q) 0 0
  rw [Int.add_zero] at h
  grind
theorem cF_sub (x y : Int) : cF (q := q) (x - y) = cF x - cF y := by
  have h := cF_add (q := q) (x - y) y
  rw [Int.sub_add_cancel] at h
  grind
theorem cF_inj {x y : Int} (hx : 0 ≤ x ∧ x < q) (hy : 0 ≤ y ∧ y < q) (h : cF (q := q) x = cF y) : x = y := by
  have h1 := congrArg (fun a : Fin q => (a.val : Int)) h
  simp only [cF_val] at h1
  rw [Int.emod_eq_of_lt hx.1 hx.2, Int.emod_eq_of_lt hy.1 hy.2] at h1
  exact h1
theorem cF_ne {x : Int} (hx : 0 ≤ x ∧ x < q) : cF (q := q) x ≠ 0 ↔ x ≠ 0 := by
  constructor
  · intro h e
    rw [e] at h
    exact h cF_zero
  · intro h e
    rw [← cF_zero] at e
    exact h (cF_inj hx ⟨by omega, by omega⟩ e)
theorem cF_one (h : 2 ≤ q) : cF (q := q) 1 = 1 := by
  apply fin_ext_int
  rw [cF_val, Int.emod_eq_of_lt (by omega) (by omega)]
  have : (1 : Fin q).val = 1 % q := rfl
  rw [this, Nat.mod_eq_of_lt (by omega)]
  rfl
theorem one_ne (h : 2 ≤ q) : (1 : Fin q) ≠ 0 := by
  rw [← cF_one h]
  exact (cF_ne ⟨by omega, by omega⟩).mpr (by omega)
/-- a row as a vector -/
def toV (r : List Int) : Vec q := fun i => cF (r.getD i 0)
def RowsOk (p : Int) (n : Nat) (rows : List (List Int)) : Prop := ∀ r ∈ rows, r.length = n ∧ ∀ x ∈ r, 0 ≤ x ∧ x < p
def invF (f : Fin q) : Fin q := cF (ctr q (f.val : Int))
theorem invF_ok (h : Fld (q : Int)) : ∀ a : Fin q, a ≠ 0 → invF a * a = 1 := by
  intro a ha
  have hv : 1 ≤ (a.val : Int) := by
    have : a.val ≠ 0 := fun e => ha (Fin.ext (by rw [e]; rfl))
    omega
  obtain ⟨_, _, h3⟩ := ctr_ok h hv (by have := a.isLt; omega)
  have e : a = cF (q := q) (a.val : Int) := by
    apply fin_ext_int
    rw [cF_val, Int.emod_eq_of_lt (by omega) (by have := a.isLt; omega)]
  have h2 : (2 : Int) ≤ q := h.1
  show cF (ctr q (a.val : Int)) * a = 1
  rw [show cF (q := q) (ctr q (a.val : Int)) * a = cF (ctr q (a.val : Int)) * cF (a.val : Int) by rw [← e], ← cF_mul, ← cF_mod, Int.mul_comm, h3, cF_one (by omega)]
theorem getD_lt {r : List Int} {p : Int} (hp : 0 < p) (h : ∀ x ∈ r, 0 ≤ x ∧ x < p) (i : Nat) : 0 ≤ r.getD i 0 ∧ r.getD i 0 < p := by
  by_cases hi : i < r.length
  · rw [gd_lt hi]
    exact h _ (List.getElem_mem hi)
  · rw [gd_ge (by omega)]
    omega
theorem toV_wid {r : List Int} {n : Nat} (h : r.length = n) (i : Nat) (hi : n ≤ i) : toV (q := q) r i = 0 := by
  show cF (r.getD i 0) = 0
  rw [gd_ge (by omega), cF_zero]
theorem toV_inj {x y : List Int} (hl : x.length = y.length) (hx : ∀ v ∈ x, 0 ≤ v ∧ v < (q : Int)) (hy : ∀ v ∈ y, 0 ≤ v ∧ v < (q : Int)) (h : toV (q := q) x = toV y) : x = y := by
  apply List.ext_getElem hl
  intro i h1 h2
  have e := congrFun h i
  have e : cF (q := q) (x.getD i 0) = cF (y.getD i 0) := e
  rw [gd_lt h1, gd_lt h2] at e
  exact cF_inj (hx _ (List.getElem_mem h1)) (hy _ (List.getElem_mem h2)) e
theorem getD_zipWith (f : Int → Int → Int) {x y : List Int} (h : x.length = y.length) {i : Nat} (hi : i < x.length) : (List.zipWith f x y).getD i 0 = f (x.getD i 0) (y.getD i 0) := by
  rw [gd_lt (by rw [List.length_zipWith]; omega), List.getElem_zipWith, gd_lt hi, gd_lt (by omega)]
theorem toV_less {x y : List Int} (h : x.length = y.length) (j : Nat) : toV (q := q) (lessR q x y j) = lessV (toV x) (toV y) j := by
  funext i
  show cF ((lessR q x y j).getD i 0) = cF (x.getD i 0) - cF (x.getD j 0) * cF (y.getD i 0)
  by_cases hi : i < x.length
  · unfold lessR
    rw [getD_zipWith _ h hi, cF_mod, cF_sub, cF_mul]
  · rw [gd_ge (by unfold lessR; rw [List.length_zipWith]; omega), gd_ge (r := x) (by omega), gd_ge (r := y) (by omega), cF_zero]
    grind
theorem toV_own {a : List Int} (ha : ∀ v ∈ a, 0 ≤ v ∧ v < (q : Int)) (j : Nat) : toV (q := q) (ownR q a j) = ownV invF (toV a) j := by
  funext i
  have hj := getD_lt q_pos ha j
  have ev : ((cF (q := q) (a.getD j 0)).val : Int) = a.getD j 0 := by rw [cF_val, Int.emod_eq_of_lt hj.1 hj.2]
  show cF ((ownR q a j).getD i 0) = cF (ctr q ((cF (q := q) (a.getD j 0)).val : Int)) * cF (a.getD i 0)
  rw [ev]
  by_cases hi : i < a.length
  · unfold ownR
    rw [gd_lt (by rw [List.length_map]; exact hi), List.getElem_map, cF_mod, cF_mul, gd_lt (r := a) hi]
  · rw [gd_ge (by unfold ownR; rw [List.length_map]; omega), gd_ge (r := a) (i := i) (by omega), cF_zero]
    grind
theorem less_row {p : Int} (hp : 0 < p) {x y : List Int} {n : Nat} (hx : x.length = n) (hy : y.length = n) (j : Nat) : (lessR p x y j).length = n ∧ ∀ v ∈ lessR p x y j, 0 ≤ v ∧ v < p := by
  refine ⟨by unfold lessR; rw [List.length_zipWith]; omega, fun v hv => ?_⟩
  unfold lessR at hv
  rw [List.mem_iff_getElem?] at hv
  obtain ⟨i, hi⟩ := hv
  rw [List.getElem?_zipWith] at hi
  split at hi
  · cases Option.some.inj hi
    exact ⟨Int.emod_nonneg _ (by omega), Int.emod_lt_of_pos _ hp⟩
  · cases hi
theorem own_row {p : Int} (hp : 0 < p) {a : List Int} {n : Nat} (ha : a.length = n) (j : Nat) : (ownR p a j).length = n ∧ ∀ v ∈ ownR p a j, 0 ≤ v ∧ v < p := by
  refine ⟨by unfold ownR; rw [List.length_map]; exact ha, fun v hv => ?_⟩
  unfold ownR at hv
  obtain ⟨r, _, rfl⟩ := List.mem_map.mp hv
  exact ⟨Int.emod_nonneg _ (by omega), Int.emod_lt_of_pos _ hp⟩
theorem step_rows {p : Int} (hp : 0 < p) {n : Nat} {st : List (List Int) × List (List Int)} (h1 : RowsOk p n st.1) (h2 : RowsOk p n st.2) (k : Nat) : RowsOk p n (stepR p st k).1 ∧ RowsOk p n (stepR p st k).2 ∧ (stepR p st k).1.length = st.1.length ∧ (stepR p st k).2.length ≤ st.2.length + 1 := by
  unfold stepR
  split
  · exact ⟨h1, h2, rfl, by omega⟩
  · rename_i a r hf
    obtain ⟨ha, _⟩ := filter_head hf
    have ho := own_row hp (h1 a ha).1 k
    refine ⟨fun x hx => ?_, fun x hx => ?_, by rw [List.length_map], by rw [List.length_append, List.length_map]; simp⟩
    · obtain ⟨y, my, rfl⟩ := List.mem_map.mp hx
      exact less_row hp (h1 y my).1 ho.1 k
    · rcases List.mem_append.mp hx with hx | hx
      · obtain ⟨y, my, rfl⟩ := List.mem_map.mp hx
        exact less_row hp (h2 y my).1 ho.1 k
      · have : x = ownR p a k := by simpa using hx
        rw [this]
        exact ho
/-- the steps of both sides -/
theorem step_sim {n : Nat} {st : List (List Int) × List (List Int)} {sv : List (Vec q) × List (Nat × Vec q)} (h1 : RowsOk q n st.1) (h2 : RowsOk q n st.2) (e1 : st.1.map (toV (q := q)) = sv.1) (e2 : st.2.map (toV (q := q)) = sv.2.map (·.2)) (k : Nat) :
    (stepR q st k).1.map (toV (q := q)) = (stepV invF sv k).1 ∧ (stepR q st k).2.map (toV (q := q)) = (stepV invF sv k).2.map (·.2) := by
  have hf : sv.1.filter (fun x => decide (x k ≠ 0)) = (st.1.filter (fun r => decide (r.getD k 0 ≠ 0))).map (toV (q := q)) := by
    rw [← e1, List.filter_map]
    congr 1
    apply List.filter_congr
    intro r hr
    have := cF_ne (q := q) (getD_lt q_pos (h1 r hr).2 k)
    show decide (cF (q := q) (r.getD k 0) ≠ 0) = decide (r.getD k 0 ≠ 0)
    simp only [this]
  unfold stepR stepV
  rw [hf]
  cases hl : st.1.filter (fun r => decide (r.getD k 0 ≠ 0)) with
  | nil => exact ⟨e1, e2⟩
  | cons a r =>
    obtain ⟨ha, _⟩ := filter_head hl
    have ho := own_row (q_pos (q := q)) (h1 a ha).1 k
    have eo : toV (q := q) (ownR q a k) = ownV invF (toV a) k := toV_own (h1 a ha).2 k
    simp only [List.map_cons]
    constructor
    · rw [← e1, List.map_map, List.map_map]
      apply List.map_congr_left
      intro x hx
      show toV (lessR q x (ownR q a k) k) = lessV (toV x) (ownV invF (toV a) k) k
      rw [toV_less (by rw [(h1 x hx).1, ho.1]), eo]
    · rw [List.map_append, List.map_append, List.map_map, List.map_map, List.map_cons, List.map_cons, List.map_nil, List.map_nil, eo]
      congr 1
      have e3 : sv.2.map ((fun b : Nat × Vec q => b.2) ∘ fun b => (b.1, lessV b.2 (ownV invF (toV a) k) k)) = (sv.2.map (·.2)).map fun v => lessV v (ownV invF (toV a) k) k := by
        rw [List.map_map]
        rfl
      rw [e3, ← e2, List.map_map]
      apply List.map_congr_left
      intro x hx
      show toV (lessR q x (ownR q a k) k) = lessV (toV x) (ownV invF (toV a) k) k
      rw [toV_less (by rw [(h2 x hx).1, ho.1]), eo]
theorem steps_sim {n : Nat} {rows : List (List Int)} (h : RowsOk q n rows) : ∀ k, RowsOk q n ((List.range k).foldl (stepR q) (rows, [])).1 ∧ RowsOk q n ((List.range k).foldl (stepR q) (rows, [])).2 ∧
    ((List.range k).foldl (stepR q) (rows, [])).1.map (toV (q := q)) = ((List.range k).foldl (stepV invF) (rows.map (toV (q := q)), [])).1 ∧ ((List.range k).foldl (stepR q) (rows, [])).2.map (toV (q := q)) = ((List.range k).foldl (stepV invF) (rows.map (toV (q := q)), [])).2.map (·.2)
  | 0 => ⟨h, fun r hr => (nomatch hr), rfl, rfl⟩
  | k + 1 => by
    obtain ⟨a, b, c, d⟩ := steps_sim h k
    rw [List.range_succ, List.foldl_append, List.foldl_append]
    obtain ⟨e1, e2, _, _⟩ := step_rows q_pos a b k
    obtain ⟨f1, f2⟩ := step_sim a b c d k
    exact ⟨e1, e2, f1, f2⟩
theorem plainR_rows {n : Nat} {rows : List (List Int)} (h : RowsOk q n rows) : RowsOk q n (plainR q n rows) := (steps_sim h n).2.1
theorem plainR_eq {n : Nat} {rows : List (List Int)} (h : RowsOk q n rows) : (plainR q n rows).map (toV (q := q)) = (plainV invF n (rows.map (toV (q := q)))).map (·.2) := (steps_sim h n).2.2.2
theorem rows_wid {n : Nat} {rows : List (List Int)} (h : RowsOk q n rows) : ∀ x ∈ rows.map (toV (q := q)), ∀ i, n ≤ i → x i = 0 := by
  intro x hx i hi
  obtain ⟨r, mr, rfl⟩ := List.mem_map.mp hx
  exact toV_wid (h r mr).1 i hi
/-- what rows make -/
def Mk (q : Nat) [NeZero q] (rows : List (List Int)) (x : Vec q) : Prop := Spn (rows.map (toV (q := q))) x
/-- a plain form -/
def IsPF (q : Nat) [NeZero q] (n : Nat) (room : List (List Int)) : Prop := RowsOk q n room ∧ ∃ bs : List (Nat × Vec q), PF n bs ∧ bs.map (·.2) = room.map (toV (q := q))
theorem plainR_pf (hF : Fld (q : Int)) {n : Nat} {rows : List (List Int)} (h : RowsOk q n rows) : IsPF q n (plainR q n rows) := ⟨plainR_rows h, _, plainV_pf invF (invF_ok hF) (rows_wid h), (plainR_eq h).symm⟩
theorem plainR_mk (hF : Fld (q : Int)) {n : Nat} {rows : List (List Int)} (h : RowsOk q n rows) (x : Vec q) : Mk q (plainR q n rows) x ↔ Mk q rows x := by
  unfold Mk
  rw [plainR_eq h]
  exact plainV_spn invF (invF_ok hF) (rows_wid h) x
theorem map_inj {n : Nat} : ∀ {xs ys : List (List Int)}, RowsOk q n xs → RowsOk q n ys → xs.map (toV (q := q)) = ys.map (toV (q := q)) → xs = ys
  | [], [], _, _, _ => rfl
  | [], _ :: _, _, _, e => by cases e
  | _ :: _, [], _, _, e => by cases e
  | x :: xs, y :: ys, hx, hy, e => by
    rw [List.map_cons, List.map_cons] at e
    have h1 := hx x List.mem_cons_self
    have h2 := hy y List.mem_cons_self
    have e1 : x = y := toV_inj (by rw [h1.1, h2.1]) h1.2 h2.2 (List.cons.inj e).1
    rw [e1, map_inj (fun r hr => hx r (List.mem_cons_of_mem _ hr)) (fun r hr => hy r (List.mem_cons_of_mem _ hr)) (List.cons.inj e).2]
/-- each room has just one plain form -/
theorem IsPF.uniq (hF : Fld (q : Int)) {n : Nat} {one other : List (List Int)} (h1 : IsPF q n one) (h2 : IsPF q n other) (h : ∀ x, Mk q one x ↔ Mk q other x) : one = other := by
  obtain ⟨r1, bs, b1, e1⟩ := h1
  obtain ⟨r2, cs, c1, e2⟩ := h2
  have h2' : (2 : Int) ≤ q := hF.1
  have e := b1.uniq (one_ne (by omega)) c1 fun x => by
    rw [e1, e2]
    exact h x
  exact map_inj r1 r2 (by rw [← e1, ← e2, e])
theorem IsPF.plain (hF : Fld (q : Int)) {n : Nat} {room rows : List (List Int)} (h1 : IsPF q n room) (h : RowsOk q n rows) (hm : ∀ x, Mk q room x ↔ Mk q rows x) : room = plainR q n rows :=
  h1.uniq hF (plainR_pf hF h) fun x => (hm x).trans (plainR_mk hF h x).symm
theorem plainR_len {n : Nat} {rows : List (List Int)} (h : RowsOk q n rows) : (plainR q n rows).length = (plainV invF n (rows.map (toV (q := q)))).length := by
  have := congrArg List.length (plainR_eq h)
  rw [List.length_map, List.length_map] at this
  exact this
theorem plainR_has (hF : Fld (q : Int)) {n : Nat} {rows : List (List Int)} {r : List Int} (h : RowsOk q n rows) (hr : RowsOk q n [r]) : (plainR q n (rows ++ [r])).length = (plainR q n rows).length ↔ Mk q rows (toV r) := by
  have h2 : (2 : Int) ≤ q := hF.1
  have hr' := hr r List.mem_cons_self
  have hall : RowsOk q n (rows ++ [r]) := fun x hx => by
    rcases List.mem_append.mp hx with h' | h'
    · exact h x h'
    · exact hr x h'
  rw [plainR_len h, plainR_len hall, List.map_append, List.map_cons, List.map_nil]
  exact plainV_has invF (one_ne (by omega)) (invF_ok hF) (rows_wid h) fun i hi => toV_wid hr'.1 i hi
end
end OC
/-! a row more: one first place more, or none; worlds that part -/
namespace Lin
set_option linter.all false
section
variable {p : Nat} [NeZero p]
theorem exists_lead {x : Vec p} : ∀ (j : Nat), x j ≠ 0 → ∃ k, k ≤ j ∧ Lead x k := by
  intro j
  induction j using Nat.strongRecOn with
  | _ j ih =>
    intro h
    by_cases hz : ∀ i, i < j → x i = 0
    · exact ⟨j, Nat.le_refl j, h, hz⟩
    · obtain ⟨i, hi⟩ := Classical.not_forall.mp hz
      have hi' : i < j ∧ x i ≠ 0 := Classical.not_imp.mp hi
      obtain ⟨k, hk, l⟩ := ih i hi'.1 hi'.2
      exact ⟨k, by omega, l⟩
/-- x less what the rows tell of it -/
def leftV (bs : List (Nat × Vec p)) (x : Vec p) : Vec p := fun i => x i - red bs x i
theorem left_at {n : Nat} {bs : List (Nat × Vec p)} (h : PF n bs) (x : Vec p) {c : Nat × Vec p} (hc : c ∈ bs) : leftV bs x c.1 = 0 := by
  show x c.1 - red bs x c.1 = 0
  rw [h.at x hc]
  grind
theorem left_zero {n : Nat} {bs : List (Nat × Vec p)} (h : PF n bs) (x : Vec p) : leftV bs x = zeroV ↔ Spn (bs.map (·.2)) x := by
  constructor
  · intro e
    have : x = red bs x := by
      funext i
      have h0 := congrFun e i
      have h0 : x i - red bs x i = 0 := h0
      grind
    rw [this]
    exact spn_red bs x
  · intro hx
    funext i
    show x i - red bs x i = 0
    rw [h.told hx]
    grind
/-- sums of a row of the room and of so many of v -/
theorem spn_more {vs : List (Vec p)} {v x : Vec p} (hx : Spn (vs ++ [v]) x) : ∃ s c, Spn vs s ∧ x = addV s (mulV c v) := by
  have hS : Sub (fun x : Vec p => ∃ s c, Spn vs s ∧ x = addV s (mulV c v)) := by
    refine ⟨⟨zeroV, 0, (spn_sub vs).zero, ?_⟩, ?_, ?_⟩
    · funext i
      show (0 : Fin p) = 0 + 0 * v i
      grind
    · rintro x y ⟨s, c, hs, rfl⟩ ⟨t, d, ht, rfl⟩
      refine ⟨addV s t, c + d, (spn_sub vs).add hs ht, ?_⟩
      funext i
      show s i + c * v i + (t i + d * v i) = s i + t i + (c + d) * v i
      grind
    · rintro d x ⟨s, c, hs, rfl⟩
      refine ⟨mulV d s, d * c, (spn_sub vs).mul d hs, ?_⟩
      funext i
      show d * (s i + c * v i) = d * s i + d * c * v i
      grind
  refine spn_le hS (fun w hw => ?_) hx
  rcases List.mem_append.mp hw with h | h
  · refine ⟨w, 0, spn_mem h, ?_⟩
    funext i
    show w i = w i + 0 * v i
    grind
  · have : w = v := by simpa using h
    subst this
    refine ⟨zeroV, 1, (spn_sub vs).zero, ?_⟩
    funext i
    show w i = 0 + 1 * w i
    grind
/-- the first places of a row of the greater room -/
theorem lead_more {n : Nat} {bs : List (Nat × Vec p)} (h : PF n bs) {v : Vec p} {j k : Nat} {x : Vec p} (hj : Lead (leftV bs v) j) (hfld : ∀ a b : Fin p, a * b = 0 → a = 0 ∨ b = 0) (hx : Spn (bs.map (·.2) ++ [v]) x) (hk : Lead x k) : (∃ b ∈ bs, b.1 = k) ∨ k = j := by
  obtain ⟨s, c, hs, rfl⟩ := spn_more hx
  -- with the left of v in its place
  have e : addV s (mulV c v) = addV (addV s (mulV c (red bs v))) (mulV c (leftV bs v)) := by
    funext i
    show s i + c * v i = s i + c * red bs v i + c * (v i - red bs v i)
    grind
  have hs' : Spn (bs.map (·.2)) (addV s (mulV c (red bs v))) := (spn_sub _).add hs ((spn_sub _).mul c (spn_red bs v))
  rw [e] at hk
  generalize addV s (mulV c (red bs v)) = t at hs' hk
  by_cases hc : c = 0
  · subst hc
    have e2 : addV t (mulV 0 (leftV bs v)) = t := by
      funext i
      show t i + 0 * leftV bs v i = t i
      grind
    rw [e2] at hk
    exact .inl (h.lead hs' hk)
  · have val : ∀ i, addV t (mulV c (leftV bs v)) i = t i + c * leftV bs v i := fun _ => rfl
    rcases Nat.lt_trichotomy k j with hlt | heq | hgt
    · have lt : Lead t k := by
        refine ⟨?_, fun i hi => ?_⟩
        · have h1 := hk.1
          rw [val, hj.2 k hlt] at h1
          intro z
          apply h1
          rw [z]
          grind
        · have h1 := hk.2 i hi
          rw [val, hj.2 i (by omega)] at h1
          grind
      exact .inl (h.lead hs' lt)
    · exact .inr heq
    · have lt : Lead t j := by
        refine ⟨fun z => ?_, fun i hi => ?_⟩
        · have h1 := hk.2 j hgt
          rw [val, z] at h1
          have h2 : c * leftV bs v j = 0 := by grind
          rcases hfld _ _ h2 with h3 | h3
          · exact hc h3
          · exact hj.1 h3
        · have h1 := hk.2 i (by omega)
          rw [val, hj.2 i hi] at h1
          grind
      obtain ⟨b, mb, eb⟩ := h.lead hs' lt
      have := left_at h v mb
      rw [eb] at this
      exact absurd this hj.1
theorem sorted_more {l m : List Nat} {j : Nat} (hl : l.Pairwise (· < ·)) (hm : m.Pairwise (· < ·)) (h : ∀ x ∈ l, x ∈ m ∨ x = j) : l.length ≤ m.length + 1 := by
  have nd : l.Nodup := hl.imp fun h => Nat.ne_of_lt h
  have s := List.erase_sublist (a := j) (l := l)
  have h1 := (sorted_len (hl.sublist s) hm fun x hx => by
    rcases h x (List.mem_of_mem_erase hx) with h | h
    · exact h
    · subst h
      exact absurd hx (List.Nodup.not_mem_erase nd)).1
  have h2 := List.length_erase (a := j) (l := l)
  split at h2 <;> omega
variable (inv : Fin p → Fin p)
/-- a row more that is not made: one row more -/
theorem plainV_more {n : Nat} {vs : List (Vec p)} {v : Vec p} (h1 : (1 : Fin p) ≠ 0) (hinv : ∀ a : Fin p, a ≠ 0 → inv a * a = 1) (hw : ∀ x ∈ vs, ∀ i, n ≤ i → x i = 0) (hv : ∀ i, n ≤ i → v i = 0) (hn : ¬ Spn vs v) :
    (plainV inv n (vs ++ [v])).length = (plainV inv n vs).length + 1 := by
  have hfld : ∀ a b : Fin p, a * b = 0 → a = 0 ∨ b = 0 := fun a b e => by
    by_cases ha : a = 0
    · exact .inl ha
    · have := hinv a ha
      refine .inr ?_
      have : b = inv a * (a * b) := by grind
      rw [e] at this
      grind
  have hw' : ∀ x ∈ vs ++ [v], ∀ i, n ≤ i → x i = 0 := fun x hx => by
    rcases List.mem_append.mp hx with h | h
    · exact hw x h
    · have : x = v := by simpa using h
      rw [this]
      exact hv
  have A := plainV_pf inv hinv hw
  have B := plainV_pf inv hinv hw'
  have sa := plainV_spn inv hinv hw
  have sb := plainV_spn inv hinv hw'
  have ne : leftV (plainV inv n vs) v ≠ zeroV := fun e => hn ((sa v).mp ((left_zero A v).mp e))
  obtain ⟨j0, hj0⟩ : ∃ j, leftV (plainV inv n vs) v j ≠ 0 := by
    apply Classical.byContradiction
    intro hz
    apply ne
    funext i
    exact Classical.byContradiction fun q => hz ⟨i, q⟩
  obtain ⟨j, _, hj⟩ := exists_lead j0 hj0
  have up : (plainV inv n (vs ++ [v])).length ≤ (plainV inv n vs).length + 1 := by
    have := sorted_more (j := j) (List.pairwise_map.mpr B.inc) (List.pairwise_map.mpr A.inc) fun x hx => by
      obtain ⟨b, mb, rfl⟩ := List.mem_map.mp hx
      have hb : Spn ((plainV inv n vs).map (·.2) ++ [v]) b.2 := by
        refine spn_append (spn_sub _) (fun y hy => spn_left ((sa y).mpr hy)) (fun y hy => spn_right hy) b.2 ((sb b.2).mp (spn_mem (List.mem_map_of_mem mb)))
      rcases lead_more A hj hfld hb (B.leads h1 mb) with ⟨c, mc, e⟩ | e
      · exact .inl (List.mem_map.mpr ⟨c, mc, e⟩)
      · exact .inr e
    rw [List.length_map, List.length_map] at this
    exact this
  have low : (plainV inv n vs).length ≤ (plainV inv n (vs ++ [v])).length := plainV_len_le inv h1 hinv hw hw' fun x hx => spn_left hx
  have neq : (plainV inv n (vs ++ [v])).length ≠ (plainV inv n vs).length := fun e => hn ((plainV_has inv h1 hinv hw hv).mp e)
  omega
/-! ### worth: the sum over the places -/
def dot : Nat → Vec p → Vec p → Fin p
  | 0, _, _ => 0
  | n + 1, x, y => dot n x y + x n * y n
theorem dot_add (n : Nat) (x y w : Vec p) : dot n (addV x y) w = dot n x w + dot n y w := by
  induction n with
  | zero => simp only [dot]; grind
  | succ n ih =>
    simp only [dot]
    rw [ih]
    show dot n x w + dot n y w + (x n + y n) * w n = dot n x w + x n * w n + (dot n y w + y n * w n)
    grind
theorem dot_mul (n : Nat) (c : Fin p) (x w : Vec p) : dot n (mulV c x) w = c * dot n x w := by
  induction n with
  | zero => simp only [dot]; grind
  | succ n ih =>
    simp only [dot]
    rw [ih]
    show c * dot n x w + c * x n * w n = c * (dot n x w + x n * w n)
    grind
theorem dot_comm (n : Nat) (x y : Vec p) : dot n x y = dot n y x := by
  induction n with
  | zero => rfl
  | succ n ih =>
    simp only [dot]
    rw [ih]
    grind
theorem dot_zero (n : Nat) (w : Vec p) : dot n zeroV w = 0 := by
  induction n with
  | zero => rfl
  | succ n ih =>
    simp only [dot]
    rw [ih]
    show (0 : Fin p) + 0 * w n = 0
    grind
end
end Lin
/-! worlds that part; sizes of sums and of what two rooms share -/
namespace Lin
set_option linter.all false
section
variable {p : Nat} [NeZero p]
def unitV (j : Nat) : Vec p := fun i => if i = j then 1 else 0
theorem dot_unit (n : Nat) (x : Vec p) (j : Nat) : dot n x (unitV j) = if j < n then x j else 0 := by
  induction n with
  | zero => simp [dot]
  | succ n ih =>
    simp only [dot]
    rw [ih]
    unfold unitV
    by_cases h1 : n = j
    · subst h1
      rw [if_neg (Nat.lt_irrefl n), if_pos (Nat.lt_succ_self n)]
      simp only [if_true]
      grind
    · rw [if_neg h1]
      by_cases h2 : j < n
      · rw [if_pos h2, if_pos (by omega)]
        grind
      · rw [if_neg h2, if_neg (by omega)]
        grind
/-- the world at which a row is worth what is left of it at the place j -/
def crossV : List (Nat × Vec p) → Nat → Vec p
  | [], j => unitV j
  | b :: bs, j => addV (mulV (-(b.2 j)) (unitV b.1)) (crossV bs j)
theorem dot_cross (n : Nat) : ∀ (bs : List (Nat × Vec p)) (x : Vec p) (j : Nat), (∀ b ∈ bs, b.1 < n) → j < n → dot n x (crossV bs j) = leftV bs x j
  | [], x, j, _, hj => by
    simp only [crossV]
    rw [dot_unit, if_pos hj]
    show x j = x j - 0
    grind
  | b :: bs, x, j, hb, hj => by
    have ih := dot_cross n bs x j (fun c hc => hb c (List.mem_cons_of_mem _ hc)) hj
    simp only [crossV]
    rw [dot_comm, dot_add, dot_mul, dot_comm n (unitV b.1) x, dot_comm n (crossV bs j) x, ih, dot_unit, if_pos (hb b List.mem_cons_self)]
    show -(b.2 j) * x b.1 + (x j - red bs x j) = x j - (x b.1 * b.2 j + red bs x j)
    grind
theorem cross_wid : ∀ (bs : List (Nat × Vec p)) (n j : Nat), (∀ b ∈ bs, b.1 < n) → j < n → ∀ i, n ≤ i → crossV bs j i = 0
  | [], n, j, _, hj, i, hi => by
    show (if i = j then (1 : Fin p) else 0) = 0
    rw [if_neg (by omega)]
  | b :: bs, n, j, hb, hj, i, hi => by
    have ih := cross_wid bs n j (fun c hc => hb c (List.mem_cons_of_mem _ hc)) hj i hi
    have := hb b List.mem_cons_self
    show -(b.2 j) * (if i = b.1 then (1 : Fin p) else 0) + crossV bs j i = 0
    rw [if_neg (by omega), ih]
    grind
/-! ### sizes -/
variable (inv : Fin p → Fin p)
/-- what a list of rows needs: the size of their room -/
def dim (n : Nat) (vs : List (Vec p)) : Nat := (plainV inv n vs).length
structure Good (n : Nat) : Prop where
  one : (1 : Fin p) ≠ 0
  inv : ∀ a : Fin p, a ≠ 0 → inv a * a = 1
def Wid (n : Nat) (vs : List (Vec p)) : Prop := ∀ x ∈ vs, ∀ i, n ≤ i → x i = 0
theorem Wid.app {n : Nat} {vs ws : List (Vec p)} (h1 : Wid n vs) (h2 : Wid n ws) : Wid n (vs ++ ws) := fun x hx => (List.mem_append.mp hx).elim (h1 x) (h2 x)
theorem Wid.one {n : Nat} {v : Vec p} (h : ∀ i, n ≤ i → v i = 0) : Wid n [v] := fun x hx => by
  have : x = v := by simpa using hx
  rw [this]
  exact h
variable {inv}
theorem Good.same {n : Nat} (g : Good inv n) {vs ws : List (Vec p)} (hv : Wid n vs) (hw : Wid n ws) (h : ∀ x, Spn vs x ↔ Spn ws x) : dim inv n vs = dim inv n ws :=
  Nat.le_antisymm (plainV_len_le inv g.one g.inv hv hw fun x hx => (h x).mp hx) (plainV_len_le inv g.one g.inv hw hv fun x hx => (h x).mpr hx)
theorem Good.le {n : Nat} (g : Good inv n) {vs ws : List (Vec p)} (hv : Wid n vs) (hw : Wid n ws) (h : ∀ x, Spn vs x → Spn ws x) : dim inv n vs ≤ dim inv n ws := plainV_len_le inv g.one g.inv hv hw h
theorem Good.in_ {n : Nat} (g : Good inv n) {vs : List (Vec p)} {v : Vec p} (hv : Wid n vs) (hw : ∀ i, n ≤ i → v i = 0) (h : Spn vs v) : dim inv n (vs ++ [v]) = dim inv n vs := (plainV_has inv g.one g.inv hv hw).mpr h
theorem Good.out {n : Nat} (g : Good inv n) {vs : List (Vec p)} {v : Vec p} (hv : Wid n vs) (hw : ∀ i, n ≤ i → v i = 0) (h : ¬ Spn vs v) : dim inv n (vs ++ [v]) = dim inv n vs + 1 := plainV_more inv g.one g.inv hv hw h
theorem dim_nil (n : Nat) : dim inv n ([] : List (Vec p)) = 0 := by
  have h : ∀ k, (List.range k).foldl (stepV inv) (([] : List (Vec p)), []) = ([], []) := by
    intro k
    induction k with
    | zero => rfl
    | succ k ih =>
      rw [List.range_succ, List.foldl_append, ih]
      rfl
  unfold dim plainV
  rw [h n]
  rfl
theorem spn_app {vs ws : List (Vec p)} {x : Vec p} : Spn (vs ++ ws) x ↔ ∃ s t, Spn vs s ∧ Spn ws t ∧ x = addV s t := by
  constructor
  · intro hx
    have hS : Sub (fun x : Vec p => ∃ s t, Spn vs s ∧ Spn ws t ∧ x = addV s t) := by
      refine ⟨⟨zeroV, zeroV, (spn_sub vs).zero, (spn_sub ws).zero, (zero_add _).symm⟩, ?_, ?_⟩
      · rintro x y ⟨s, t, hs, ht, rfl⟩ ⟨s', t', hs', ht', rfl⟩
        refine ⟨addV s s', addV t t', (spn_sub vs).add hs hs', (spn_sub ws).add ht ht', ?_⟩
        funext i
        show s i + t i + (s' i + t' i) = s i + s' i + (t i + t' i)
        grind
      · rintro c x ⟨s, t, hs, ht, rfl⟩
        refine ⟨mulV c s, mulV c t, (spn_sub vs).mul c hs, (spn_sub ws).mul c ht, ?_⟩
        funext i
        show c * (s i + t i) = c * s i + c * t i
        grind
    refine spn_le hS (fun w hw => ?_) hx
    rcases List.mem_append.mp hw with h | h
    · refine ⟨w, zeroV, spn_mem h, (spn_sub ws).zero, ?_⟩
      funext i
      show w i = w i + 0
      grind
    · exact ⟨zeroV, w, (spn_sub vs).zero, spn_mem h, (zero_add w).symm⟩
  · rintro ⟨s, t, hs, ht, rfl⟩
    exact (spn_sub _).add (spn_left hs) (spn_right ht)
/-- what two rooms share: rows that make it, and the sizes -/
theorem Good.meet {n : Nat} (g : Good inv n) {us : List (Vec p)} (hu : Wid n us) : ∀ (m : Nat) (ws : List (Vec p)), ws.length = m → Wid n ws → ∃ ks, Wid n ks ∧ (∀ x, Spn ks x ↔ Spn us x ∧ Spn ws x) ∧ dim inv n (us ++ ws) + dim inv n ks = dim inv n us + dim inv n ws
  | 0, ws, hl, hw => by
    have e : ws = [] := List.eq_nil_of_length_eq_zero hl
    subst e
    refine ⟨[], fun x hx => (nomatch hx), fun x => ⟨fun hx => ⟨?_, hx⟩, fun hx => hx.2⟩, ?_⟩
    · obtain ⟨fs, e⟩ := hx
      rw [e, lin_nil']
      exact (spn_sub us).zero
    · rw [List.append_nil, dim_nil]
  | m + 1, ws, hl, hw => by
    obtain ⟨ws', w, rfl⟩ : ∃ ws' w, ws = ws' ++ [w] := by
      rcases List.eq_nil_or_concat ws with e | ⟨l, b, e⟩
      · rw [e] at hl
        cases hl
      · exact ⟨l, b, by rw [e, List.concat_eq_append]⟩
    have hw' : Wid n ws' := fun x hx => hw x (List.mem_append_left _ hx)
    have hww : ∀ i, n ≤ i → w i = 0 := hw w (by simp)
    obtain ⟨ks, hk, sk, dk⟩ := meet g hu m ws' (by simpa using hl) hw'
    rw [← List.append_assoc]
    by_cases h1 : Spn ws' w
    · have same : ∀ x, Spn (ws' ++ [w]) x ↔ Spn ws' x := fun x => ⟨fun hx => spn_append (spn_sub ws') (fun _ h => h) (fun y hy => spn_sub_of (fun z hz => by
        have : z = w := by simpa using hz
        rw [this]
        exact h1) hy) x hx, spn_left⟩
      refine ⟨ks, hk, fun x => (sk x).trans ⟨fun h => ⟨h.1, (same x).mpr h.2⟩, fun h => ⟨h.1, (same x).mp h.2⟩⟩, ?_⟩
      rw [g.in_ (hu.app hw') hww (spn_right h1), g.in_ hw' hww h1]
      exact dk
    · rw [g.out hw' hww h1]
      by_cases h2 : Spn (us ++ ws') w
      · rw [g.in_ (hu.app hw') hww h2]
        obtain ⟨u, v, su, sv, ew⟩ := spn_app.mp h2
        -- u = w - v is shared
        have eu : u = fun i => w i - 1 * v i := by
          funext i
          have := congrFun ew i
          have this : w i = u i + v i := this
          grind
        have uw : Spn (ws' ++ [w]) u := by
          rw [eu]
          exact (spn_sub _).less 1 (spn_right (spn_mem (by simp))) (spn_left sv)
        have nu : ¬ Spn ws' u := fun hu' => h1 (by rw [ew]; exact (spn_sub _).add hu' sv)
        have wu : ∀ i, n ≤ i → u i = 0 := fun i hi => by
          have h := hu
          have hz : Sub (fun x : Vec p => x i = 0) := ⟨rfl, fun {x y} hx hy => by show x i + y i = 0; rw [hx, hy]; grind, fun c {x} hx => by show c * x i = 0; rw [hx]; grind⟩
          exact spn_le hz (fun x hx => h x hx i hi) su
        refine ⟨ks ++ [u], hk.app (Wid.one wu), fun x => ⟨fun hx => ?_, fun hx => ?_⟩, ?_⟩
        · have s1 : Sub (fun x : Vec p => Spn us x ∧ Spn (ws' ++ [w]) x) := ⟨⟨(spn_sub _).zero, (spn_sub _).zero⟩, fun {x y} hx hy => ⟨(spn_sub _).add hx.1 hy.1, (spn_sub _).add hx.2 hy.2⟩, fun c {x} hx => ⟨(spn_sub _).mul c hx.1, (spn_sub _).mul c hx.2⟩⟩
          refine spn_le s1 (fun y hy => ?_) hx
          rcases List.mem_append.mp hy with hy | hy
          · have := (sk y).mp (spn_mem hy)
            exact ⟨this.1, spn_left this.2⟩
          · have : y = u := by simpa using hy
            rw [this]
            exact ⟨su, uw⟩
        · obtain ⟨s, c, hs, ex⟩ := spn_more hx.2
          -- x - c u is in both
          have hy : Spn us (fun i => x i - c * u i) := (spn_sub _).less c hx.1 su
          have hy2 : Spn ws' (fun i => x i - c * u i) := by
            have e : (fun i => x i - c * u i) = addV s (mulV c v) := by
              funext i
              have e1 := congrFun ex i
              have e2 := congrFun ew i
              have e1 : x i = s i + c * w i := e1
              have e2 : w i = u i + v i := e2
              show x i - c * u i = s i + c * v i
              grind
            rw [e]
            exact (spn_sub _).add hs ((spn_sub _).mul c sv)
          have hk2 := (sk _).mpr ⟨hy, hy2⟩
          have e : x = addV (fun i => x i - c * u i) (mulV c u) := by
            funext i
            show x i = x i - c * u i + c * u i
            grind
          rw [e]
          exact (spn_sub _).add (spn_left hk2) ((spn_sub _).mul c (spn_right (spn_mem (by simp))))
        · have nk : ¬ Spn ks u := fun h => nu ((sk u).mp h).2
          rw [g.out hk wu nk]
          omega
      · rw [g.out (hu.app hw') hww h2]
        refine ⟨ks, hk, fun x => (sk x).trans ⟨fun h => ⟨h.1, spn_left h.2⟩, fun h => ⟨h.1, ?_⟩⟩, by omega⟩
        obtain ⟨s, c, hs, ex⟩ := spn_more h.2
        by_cases hc : c = 0
        · subst hc
          have e : x = s := by
            rw [ex]
            funext i
            show s i + 0 * w i = s i
            grind
          rw [e]
          exact hs
        · -- w would be made of both
          exfalso
          apply h2
          have hi := g.inv c hc
          have e : w = fun i => mulV (inv c) x i - inv c * s i := by
            funext i
            have e1 := congrFun ex i
            have e1 : x i = s i + c * w i := e1
            show w i = inv c * x i - inv c * s i
            grind
          rw [e]
          exact (spn_sub _).less (inv c) ((spn_sub _).mul (inv c) (spn_left h.1)) (spn_right hs)
end
end Lin
/-! across: the worlds at which all rows of a room are worth 0 -/
namespace Lin
set_option linter.all false
section
variable {p : Nat} [NeZero p] {inv : Fin p → Fin p}
theorem dot_single {n : Nat} {x y : Vec p} {k : Nat} (hk : k < n) (h : ∀ i, i < n → i ≠ k → x i * y i = 0) : dot n x y = x k * y k := by
  have go : ∀ m, m ≤ n → dot m x y = if k < m then x k * y k else 0 := by
    intro m
    induction m with
    | zero => intro _; simp [dot]
    | succ m ih =>
      intro hm
      simp only [dot]
      rw [ih (by omega)]
      by_cases e : m = k
      · subst e
        rw [if_neg (Nat.lt_irrefl m), if_pos (Nat.lt_succ_self m)]
        grind
      · rw [h m (by omega) e]
        by_cases h2 : k < m
        · rw [if_pos h2, if_pos (by omega)]
          grind
        · rw [if_neg h2, if_neg (by omega)]
          grind
  rw [go n (Nat.le_refl n), if_pos hk]
theorem cross_free : ∀ (l : List (Nat × Vec p)) (j i : Nat), (∀ b ∈ l, b.1 ≠ i) → crossV l j i = if i = j then 1 else 0
  | [], j, i, _ => rfl
  | b :: l, j, i, h => by
    have ih := cross_free l j i fun c hc => h c (List.mem_cons_of_mem _ hc)
    show -(b.2 j) * (if i = b.1 then (1 : Fin p) else 0) + crossV l j i = _
    rw [if_neg (Ne.symm (h b List.mem_cons_self)), ih]
    grind
/-- whether a place is a first place of a row -/
def isFirst (bs : List (Nat × Vec p)) (j : Nat) : Bool := decide (j ∈ bs.map (·.1))
/-- the places that are first places of no row -/
def frees (n : Nat) (bs : List (Nat × Vec p)) : List Nat := (List.range n).filter fun j => !isFirst bs j
theorem mem_frees {n : Nat} {bs : List (Nat × Vec p)} {j : Nat} : j ∈ frees n bs ↔ j < n ∧ ∀ b ∈ bs, b.1 ≠ j := by
  unfold frees isFirst
  rw [List.mem_filter, List.mem_range]
  constructor
  · rintro ⟨h1, h2⟩
    refine ⟨h1, fun b hb e => ?_⟩
    rw [decide_eq_true (List.mem_map.mpr ⟨b, hb, e⟩)] at h2
    cases h2
  · rintro ⟨h1, h2⟩
    refine ⟨h1, ?_⟩
    rw [decide_eq_false fun hm => ?_]
    · rfl
    · obtain ⟨b, mb, e⟩ := List.mem_map.mp hm
      exact h2 b mb e
theorem filter_split (q : Nat → Bool) : ∀ l : List Nat, l.length = (l.filter q).length + (l.filter fun x => !q x).length
  | [] => rfl
  | a :: l => by
    have ih := filter_split q l
    by_cases hq : q a = true
    · rw [List.filter_cons_of_pos hq, List.filter_cons_of_neg (by rw [hq]; decide), List.length_cons, List.length_cons]
      omega
    · have hq' : q a = false := by simpa using hq
      rw [List.filter_cons_of_neg hq, List.filter_cons_of_pos (by rw [hq']; rfl), List.length_cons, List.length_cons]
      omega
theorem frees_len {n : Nat} {bs : List (Nat × Vec p)} (h : PF n bs) : (frees n bs).length + bs.length = n := by
  have e : (List.range n).filter (isFirst bs) = bs.map (·.1) := by
    refine sorted_eq (List.Pairwise.filter _ List.pairwise_lt_range) (List.pairwise_map.mpr h.inc) fun x => ?_
    rw [List.mem_filter, List.mem_range]
    constructor
    · rintro ⟨_, h2⟩
      exact of_decide_eq_true h2
    · intro hx
      obtain ⟨b, mb, e⟩ := List.mem_map.mp hx
      exact ⟨by rw [← e]; exact h.lt b mb, decide_eq_true hx⟩
  have h1 := filter_split (isFirst bs) (List.range n)
  rw [e, List.length_range, List.length_map] at h1
  unfold frees
  omega
/-- so many of each of the worlds by the free places -/
def tellV (bs : List (Nat × Vec p)) (w : Vec p) : List Nat → Vec p
  | [] => zeroV
  | j :: js => addV (mulV (w j) (crossV bs j)) (tellV bs w js)
theorem tell_spn (bs : List (Nat × Vec p)) (w : Vec p) : ∀ js : List Nat, Spn (js.map (crossV bs)) (tellV bs w js)
  | [] => (spn_sub _).zero
  | j :: js => (spn_sub _).add ((spn_sub _).mul _ (spn_mem (by simp))) (spn_tail (tell_spn bs w js))
theorem tell_free (bs : List (Nat × Vec p)) (w : Vec p) {i : Nat} (hi : ∀ b ∈ bs, b.1 ≠ i) : ∀ js : List Nat, js.Nodup → tellV bs w js i = if i ∈ js then w i else 0
  | [], _ => rfl
  | j :: js, nd => by
    have nd' := List.nodup_cons.mp nd
    have ih := tell_free bs w hi js nd'.2
    show w j * crossV bs j i + tellV bs w js i = _
    rw [ih, cross_free bs j i hi]
    by_cases e : i = j
    · subst e
      rw [if_pos rfl, if_neg nd'.1, if_pos List.mem_cons_self]
      grind
    · rw [if_neg e]
      by_cases hm : i ∈ js
      · rw [if_pos hm, if_pos (List.mem_cons_of_mem _ hm)]
        grind
      · rw [if_neg hm, if_neg (by simp [e, hm])]
        grind
/-- worlds at which all rows of a room are worth 0 -/
def Perp (n : Nat) (S : Vec p → Prop) (w : Vec p) : Prop := (∀ i, n ≤ i → w i = 0) ∧ ∀ x, S x → dot n x w = 0
theorem perp_sub (n : Nat) (S : Vec p → Prop) : Sub (Perp n S) := by
  refine ⟨⟨fun _ _ => rfl, fun x _ => by rw [dot_comm, dot_zero]⟩, fun {x y} hx hy => ⟨fun i hi => ?_, fun z hz => ?_⟩, fun c {x} hx => ⟨fun i hi => ?_, fun z hz => ?_⟩⟩
  · show x i + y i = 0
    rw [hx.1 i hi, hy.1 i hi]
    grind
  · rw [dot_comm, dot_add, dot_comm n x z, dot_comm n y z, hx.2 z hz, hy.2 z hz]
    grind
  · show c * x i = 0
    rw [hx.1 i hi]
    grind
  · rw [dot_comm, dot_mul, dot_comm n x z, hx.2 z hz]
    grind
theorem PF.cross_perp {n : Nat} {bs : List (Nat × Vec p)} (h : PF n bs) {j : Nat} (hj : j < n) : Perp n (Spn (bs.map (·.2))) (crossV bs j) :=
  ⟨cross_wid bs n j h.lt hj, fun x hx => by rw [dot_cross n bs x j h.lt hj, (left_zero h x).mpr hx]; rfl⟩
theorem frees_nodup (n : Nat) (bs : List (Nat × Vec p)) : (frees n bs).Nodup := (List.nodup_range).filter _
/-- the worlds by the free places make them all -/
theorem PF.perp_spn {n : Nat} {bs : List (Nat × Vec p)} (h : PF n bs) (w : Vec p) : Spn ((frees n bs).map (crossV bs)) w ↔ Perp n (Spn (bs.map (·.2))) w := by
  constructor
  · intro hw
    refine spn_le (perp_sub n _) (fun v hv => ?_) hw
    obtain ⟨j, mj, rfl⟩ := List.mem_map.mp hv
    exact h.cross_perp (mem_frees.mp mj).1
  · intro hw
    have ht : Perp n (Spn (bs.map (·.2))) (tellV bs w (frees n bs)) := spn_le (perp_sub n _) (fun v hv => by
      obtain ⟨j, mj, rfl⟩ := List.mem_map.mp hv
      exact h.cross_perp (mem_frees.mp mj).1) (tell_spn bs w (frees n bs))
    have hd : Perp n (Spn (bs.map (·.2))) (fun i => w i - 1 * tellV bs w (frees n bs) i) := (perp_sub n _).less 1 hw ht
    have z1 : ∀ i, i < n → (∀ b ∈ bs, b.1 ≠ i) → w i - 1 * tellV bs w (frees n bs) i = 0 := fun i hi hb => by
      rw [tell_free bs w hb _ (frees_nodup n bs), if_pos (mem_frees.mpr ⟨hi, hb⟩)]
      grind
    have z2 : ∀ c ∈ bs, w c.1 - 1 * tellV bs w (frees n bs) c.1 = 0 := fun c hc => by
      have h0 := hd.2 c.2 (spn_mem (List.mem_map_of_mem hc))
      rw [dot_single (h.lt c hc) fun i hi ne => ?_] at h0
      · rw [h.one c hc] at h0
        grind
      · by_cases hp : ∃ b ∈ bs, b.1 = i
        · obtain ⟨b, mb, rfl⟩ := hp
          rw [h.off c hc b mb (Ne.symm ne)]
          grind
        · rw [z1 i hi fun b mb e => hp ⟨b, mb, e⟩]
          grind
    have e : w = tellV bs w (frees n bs) := by
      funext i
      rcases Nat.lt_or_ge i n with hi | hi
      · by_cases hp : ∃ b ∈ bs, b.1 = i
        · obtain ⟨b, mb, rfl⟩ := hp
          have := z2 b mb
          grind
        · have := z1 i hi fun b mb e => hp ⟨b, mb, e⟩
          grind
      · rw [hw.1 i hi, ht.1 i hi]
    rw [e]
    exact tell_spn bs w _
/-- rows each with a place of its own, at which those ahead have 0: none is made by those ahead -/
theorem Good.own_places {n : Nat} (g : Good inv n) (bs : List (Nat × Vec p)) (hw : ∀ j, j < n → ∀ i, n ≤ i → crossV bs j i = 0) : ∀ (m : Nat) (js : List Nat), js.length = m → js.Nodup → (∀ j ∈ js, j < n ∧ ∀ b ∈ bs, b.1 ≠ j) → dim inv n (js.map (crossV bs)) = js.length
  | 0, js, hl, _, _ => by
    have e : js = [] := List.eq_nil_of_length_eq_zero hl
    subst e
    exact dim_nil n
  | m + 1, js, hl, nd, hf => by
    obtain ⟨js', j, rfl⟩ : ∃ js' j, js = js' ++ [j] := by
      rcases List.eq_nil_or_concat js with e | ⟨l, b, e⟩
      · rw [e] at hl
        cases hl
      · exact ⟨l, b, by rw [e, List.concat_eq_append]⟩
    have nd' : js'.Nodup := (List.nodup_append.mp nd).1
    have nj : j ∉ js' := fun hm => (List.nodup_append.mp nd).2.2 j hm j (by simp) rfl
    have hf' : ∀ k ∈ js', k < n ∧ ∀ b ∈ bs, b.1 ≠ k := fun k hk => hf k (List.mem_append_left _ hk)
    have hj := hf j (by simp)
    have ih := own_places g bs hw m js' (by simpa using hl) nd' hf'
    have wd : Wid n (js'.map (crossV bs)) := fun x hx => by
      obtain ⟨k, mk, rfl⟩ := List.mem_map.mp hx
      exact hw k (hf' k mk).1
    rw [List.map_append, List.map_cons, List.map_nil, g.out wd (hw j hj.1) fun hs => ?_, ih]
    · simp
    · have hz : Sub (fun x : Vec p => x j = 0) := ⟨rfl, fun {x y} hx hy => by show x j + y j = 0; rw [hx, hy]; grind, fun c {x} hx => by show c * x j = 0; rw [hx]; grind⟩
      have h0 : crossV bs j j = 0 := spn_le hz (fun v hv => by
        obtain ⟨k, mk, rfl⟩ := List.mem_map.mp hv
        rw [cross_free bs k j hj.2, if_neg (fun e => nj (by rw [e]; exact mk))]) hs
      rw [cross_free bs j j hj.2, if_pos rfl] at h0
      exact g.one h0
theorem Good.perp_dim {n : Nat} (g : Good inv n) {bs : List (Nat × Vec p)} (h : PF n bs) : dim inv n ((frees n bs).map (crossV bs)) + bs.length = n := by
  rw [g.own_places bs (fun j hj => cross_wid bs n j h.lt hj) _ _ rfl (frees_nodup n bs) fun j hj => mem_frees.mp hj]
  exact frees_len h
theorem Good.pf_dim {n : Nat} (g : Good inv n) {bs : List (Nat × Vec p)} (h : PF n bs) : dim inv n (bs.map (·.2)) = bs.length := by
  have hw : Wid n (bs.map (·.2)) := fun x hx => by
    obtain ⟨b, mb, rfl⟩ := List.mem_map.mp hx
    exact h.wid b mb
  have e := h.uniq g.one (plainV_pf inv g.inv hw) fun x => (plainV_spn inv g.inv hw x).symm
  unfold dim
  rw [← e]
/-- across of across is the room again -/
theorem Good.perp_perp {n : Nat} (g : Good inv n) {bs cs : List (Nat × Vec p)} (hb : PF n bs) (hc : PF n cs) (h : ∀ w, Spn (cs.map (·.2)) w ↔ Perp n (Spn (bs.map (·.2))) w) (x : Vec p) : Perp n (Spn (cs.map (·.2))) x ↔ Spn (bs.map (·.2)) x := by
  have hbw : ∀ y, Spn (bs.map (·.2)) y → ∀ i, n ≤ i → y i = 0 := fun y hy i hi => by
    have hz : Sub (fun x : Vec p => x i = 0) := ⟨rfl, fun {x y} hx hy => by show x i + y i = 0; rw [hx, hy]; grind, fun c {x} hx => by show c * x i = 0; rw [hx]; grind⟩
    refine spn_le hz (fun v hv => ?_) hy
    obtain ⟨b, mb, rfl⟩ := List.mem_map.mp hv
    exact hb.wid b mb i hi
  have sub : ∀ y, Spn (bs.map (·.2)) y → Perp n (Spn (cs.map (·.2))) y := fun y hy => ⟨hbw y hy, fun w hw => by rw [dot_comm]; exact ((h w).mp hw).2 y hy⟩
  refine ⟨fun hx => ?_, sub x⟩
  -- sizes: n - (n - s)
  have wc : Wid n ((frees n cs).map (crossV cs)) := fun y hy => by
    obtain ⟨k, mk, rfl⟩ := List.mem_map.mp hy
    exact cross_wid cs n k hc.lt (mem_frees.mp mk).1
  have wb : Wid n ((frees n bs).map (crossV bs)) := fun y hy => by
    obtain ⟨k, mk, rfl⟩ := List.mem_map.mp hy
    exact cross_wid bs n k hb.lt (mem_frees.mp mk).1
  have d1 := g.perp_dim hb
  have d2 := g.perp_dim hc
  have wcs : Wid n (cs.map (·.2)) := fun x hx => by
    obtain ⟨b, mb, rfl⟩ := List.mem_map.mp hx
    exact hc.wid b mb
  have d3 : dim inv n ((frees n bs).map (crossV bs)) = cs.length := by
    rw [g.same wb wcs fun w => (hb.perp_spn w).trans (h w).symm, g.pf_dim hc]
  have hP := plainV_pf inv g.inv wc
  have sP := plainV_spn inv g.inv wc
  have := hb.same_of_len hP g.one (fun y hy => (sP y).mpr ((hc.perp_spn y).mpr (sub y hy))) (by
    show dim inv n ((frees n cs).map (crossV cs)) ≤ bs.length
    omega) ((sP x).mpr ((hc.perp_spn x).mpr hx))
  exact this
/-- across of both rooms joined is what their across share -/
theorem perp_app {n : Nat} {us ws : List (Vec p)} (w : Vec p) : Perp n (Spn (us ++ ws)) w ↔ Perp n (Spn us) w ∧ Perp n (Spn ws) w := by
  constructor
  · intro h
    exact ⟨⟨h.1, fun x hx => h.2 x (spn_left hx)⟩, ⟨h.1, fun x hx => h.2 x (spn_right hx)⟩⟩
  · rintro ⟨h1, h2⟩
    refine ⟨h1.1, fun x hx => ?_⟩
    obtain ⟨s, t, hs, ht, rfl⟩ := spn_app.mp hx
    rw [dot_add, h1.2 s hs, h2.2 t ht]
    grind
end
end Lin
/-! Which of some rows are needed: those that the ones ahead of them don't make. -/
namespace OC
open Lin
section
variable {q : Nat} [NeZero q]
theorem rowsOk_app {p : Int} {n : Nat} {rs ts : List (List Int)} (h1 : RowsOk p n rs) (h2 : RowsOk p n ts) : RowsOk p n (rs ++ ts) := fun x hx => by
  rcases List.mem_append.mp hx with h' | h'
  · exact h1 x h'
  · exact h2 x h'
theorem rowsOk_nil {p : Int} {n : Nat} : RowsOk p n [] := fun r hr => (nomatch hr)
theorem plainR_more (hF : Fld (q : Int)) {n : Nat} {rows : List (List Int)} {r : List Int} (h : RowsOk q n rows) (hr : RowsOk q n [r]) (hn : ¬ Mk q rows (toV r)) : (plainR q n (rows ++ [r])).length = (plainR q n rows).length + 1 := by
  have h2 : (2 : Int) ≤ q := hF.1
  have hr' := hr r List.mem_cons_self
  rw [plainR_len h, plainR_len (rowsOk_app h hr), List.map_append, List.map_cons, List.map_nil]
  exact plainV_more invF (one_ne (by omega)) (invF_ok hF) (rows_wid h) (fun i hi => toV_wid hr'.1 i hi) hn
theorem mk_app_of {rows : List (List Int)} {r : List Int} (h : Mk q rows (toV r)) (x : Vec q) : Mk q (rows ++ [r]) x ↔ Mk q rows x := by
  unfold Mk
  rw [List.map_append]
  constructor
  · intro hx
    exact spn_append (spn_sub _) (fun _ h => h) (fun y hy => spn_sub_of (fun v hv => by
      have : v = toV r := by simpa using hv
      rw [this]
      exact h) hy) x hx
  · exact spn_left
theorem plainR_congr (hF : Fld (q : Int)) {n : Nat} {one other : List (List Int)} (h1 : RowsOk q n one) (h2 : RowsOk q n other) (h : ∀ x, Mk q one x ↔ Mk q other x) : plainR q n one = plainR q n other :=
  (plainR_pf hF h1).plain hF h2 fun x => (plainR_mk hF h1 x).trans (h x)
end
end OC
/-! The program's own way to the plain form: a row more, taken off, made plain, sorted. Core Lean alone. -/
namespace Lin
set_option linter.all false
section
variable {p : Nat} [NeZero p]
def leftF (bs : List (Nat × Vec p)) (x : Vec p) : Vec p := bs.foldl (fun x b => lessV x b.2 b.1) x
theorem red_congr : ∀ (l : List (Nat × Vec p)) (x y : Vec p), (∀ c ∈ l, y c.1 = x c.1) → red l y = red l x
  | [], _, _, _ => rfl
  | b :: l, x, y, h => by
    show addV (mulV (y b.1) b.2) (red l y) = addV (mulV (x b.1) b.2) (red l x)
    rw [h b List.mem_cons_self, red_congr l x y fun c hc => h c (List.mem_cons_of_mem _ hc)]
theorem leftF_eq : ∀ (l : List (Nat × Vec p)) (x : Vec p), l.Pairwise (fun a c => a.2 c.1 = 0) → leftF l x = leftV l x
  | [], x, _ => by
    funext i
    show x i = x i - 0
    grind
  | b :: l, x, h => by
    obtain ⟨h1, h2⟩ := List.pairwise_cons.mp h
    show leftF l (lessV x b.2 b.1) = _
    rw [leftF_eq l _ h2]
    have e : red l (lessV x b.2 b.1) = red l x := red_congr l x _ fun c hc => by
      show x c.1 - x b.1 * b.2 c.1 = x c.1
      rw [h1 c hc]
      grind
    funext i
    show (x i - x b.1 * b.2 i) - red l (lessV x b.2 b.1) i = x i - (x b.1 * b.2 i + red l x i)
    rw [e]
    grind
theorem PF.leftF {n : Nat} {bs : List (Nat × Vec p)} (h : PF n bs) (x : Vec p) : leftF bs x = leftV bs x := by
  refine leftF_eq bs x ?_
  refine h.inc.imp_of_mem fun {a c} ha hc hlt => h.off a ha c hc (by omega)
theorem red_wid : ∀ (l : List (Nat × Vec p)) (x : Vec p) (i : Nat), (∀ b ∈ l, b.2 i = 0) → red l x i = 0
  | [], _, _, _ => rfl
  | b :: l, x, i, h => by
    show x b.1 * b.2 i + red l x i = 0
    rw [red_wid l x i fun c hc => h c (List.mem_cons_of_mem _ hc), h b List.mem_cons_self]
    grind
/-- the pairs behind one row more -/
def moreV (inv : Fin p → Fin p) (bs : List (Nat × Vec p)) (y : Vec p) (j : Nat) : List (Nat × Vec p) := (j, ownV inv y j) :: bs.map fun b => (b.1, lessV b.2 (ownV inv y j) j)
variable (inv : Fin p → Fin p)
theorem moreV_pf {n : Nat} {bs : List (Nat × Vec p)} (h : PF n bs) (hinv : ∀ a : Fin p, a ≠ 0 → inv a * a = 1) {x : Vec p} (hx : ∀ i, n ≤ i → x i = 0) {j : Nat} (hj : Lead (leftV bs x) j) {cs : List (Nat × Vec p)} (hp : cs.Perm (moreV inv bs (leftV bs x) j)) (hi : cs.Pairwise (fun a b => a.1 < b.1)) :
    PF n cs ∧ ∀ z, Spn (cs.map (·.2)) z ↔ Spn (bs.map (·.2) ++ [x]) z := by
  generalize hy : leftV bs x = y at hj hp
  have yb : ∀ b ∈ bs, y b.1 = 0 := fun b hb => by rw [← hy]; exact left_at h x hb
  have yw : ∀ i, n ≤ i → y i = 0 := fun i hi => by
    rw [← hy]
    show x i - red bs x i = 0
    rw [hx i hi, red_wid bs x i fun b hb => h.wid b hb i hi]
    grind
  have jn : j < n := by
    rcases Nat.lt_or_ge j n with h' | h'
    · exact h'
    · exact absurd (yw j h') hj.1
  have jb : ∀ b ∈ bs, b.1 ≠ j := fun b hb e => hj.1 (by rw [← e]; exact yb b hb)
  generalize hf : ownV inv y j = f
  have fd : ∀ i, f i = inv (y j) * y i := fun i => by rw [← hf]; rfl
  have fj : f j = 1 := by rw [fd]; exact hinv _ hj.1
  have f0 : ∀ i, y i = 0 → f i = 0 := fun i e => by rw [fd, e]; grind
  have mem : ∀ c, c ∈ cs ↔ c = (j, f) ∨ ∃ b ∈ bs, c = (b.1, lessV b.2 f j) := fun c => by
    rw [hp.mem_iff]
    unfold moreV
    rw [hf, List.mem_cons, List.mem_map]
    constructor
    · rintro (e | ⟨b, hb, e⟩)
      · exact .inl e
      · exact .inr ⟨b, hb, e.symm⟩
    · rintro (e | ⟨b, hb, e⟩)
      · exact .inl e
      · exact .inr ⟨b, hb, e.symm⟩
  constructor
  · refine ⟨hi, fun c hc => ?_, fun c hc => ?_, fun c hc i hl => ?_, fun c hc d hd hne => ?_, fun c hc i hl => ?_⟩
    · rcases (mem c).mp hc with rfl | ⟨b, hb, rfl⟩
      · exact jn
      · exact h.lt b hb
    · rcases (mem c).mp hc with rfl | ⟨b, hb, rfl⟩
      · exact fj
      · show b.2 b.1 - b.2 j * f b.1 = 1
        rw [f0 _ (yb b hb), h.one b hb]
        grind
    · rcases (mem c).mp hc with rfl | ⟨b, hb, rfl⟩
      · exact f0 i (hj.2 i hl)
      · have hl : i < b.1 := hl
        show b.2 i - b.2 j * f i = 0
        rw [h.low b hb i hl]
        rcases Nat.lt_or_ge i j with h' | h'
        · rw [f0 i (hj.2 i h')]
          grind
        · rw [h.low b hb j (by omega)]
          grind
    · rcases (mem c).mp hc with rfl | ⟨b, hb, rfl⟩
      · rcases (mem d).mp hd with rfl | ⟨b', hb', rfl⟩
        · exact absurd rfl hne
        · exact f0 _ (yb b' hb')
      · rcases (mem d).mp hd with rfl | ⟨b', hb', rfl⟩
        · show b.2 j - b.2 j * f j = 0
          rw [fj]
          grind
        · show b.2 b'.1 - b.2 j * f b'.1 = 0
          rw [f0 _ (yb b' hb'), h.off b hb b' hb' hne]
          grind
    · rcases (mem c).mp hc with rfl | ⟨b, hb, rfl⟩
      · exact f0 i (yw i hl)
      · show b.2 i - b.2 j * f i = 0
        rw [f0 i (yw i hl), h.wid b hb i hl]
        grind
  · have Sc := spn_sub (cs.map (·.2))
    have Sx := spn_sub (bs.map (·.2) ++ [x])
    have inb : ∀ b ∈ bs, Spn (bs.map (·.2) ++ [x]) b.2 := fun b hb => spn_mem (List.mem_append_left _ (List.mem_map_of_mem hb))
    have inx : Spn (bs.map (·.2) ++ [x]) x := spn_mem (List.mem_append_right _ List.mem_cons_self)
    have iny : Spn (bs.map (·.2) ++ [x]) y := by
      have hr : Spn (bs.map (·.2) ++ [x]) (red bs x) := spn_left (spn_red bs x)
      have := Sx.less 1 inx hr
      have e : y = fun i => x i - 1 * red bs x i := by
        rw [← hy]
        funext i
        show x i - red bs x i = x i - 1 * red bs x i
        grind
      rw [e]
      exact this
    have inf : Spn (bs.map (·.2) ++ [x]) f := by
      have := Sx.mul (inv (y j)) iny
      rw [← hf]
      exact this
    have cf : Spn (cs.map (·.2)) f := spn_mem (List.mem_map.mpr ⟨(j, f), (mem _).mpr (.inl rfl), rfl⟩)
    have cb : ∀ b ∈ bs, Spn (cs.map (·.2)) b.2 := fun b hb => by
      have h1 : Spn (cs.map (·.2)) (lessV b.2 f j) := spn_mem (List.mem_map.mpr ⟨(b.1, lessV b.2 f j), (mem _).mpr (.inr ⟨b, hb, rfl⟩), rfl⟩)
      have h2 := Sc.add h1 (Sc.mul (b.2 j) cf)
      have e : b.2 = addV (lessV b.2 f j) (mulV (b.2 j) f) := by
        funext i
        show b.2 i = (b.2 i - b.2 j * f i) + b.2 j * f i
        grind
      rw [e]
      exact h2
    have cx : Spn (cs.map (·.2)) x := by
      have h1 : Spn (cs.map (·.2)) (red bs x) := spn_le Sc (fun v hv => by
        obtain ⟨b, hb, rfl⟩ := List.mem_map.mp hv
        exact cb b hb) (spn_red bs x)
      have h2 := Sc.add h1 (Sc.mul (y j) cf)
      have e : x = addV (red bs x) (mulV (y j) f) := by
        funext i
        show x i = red bs x i + y j * f i
        have e1 : y i = x i - red bs x i := by rw [← hy]; rfl
        have e2 := hinv _ hj.1
        rw [fd]
        grind
      rw [e]
      exact h2
    intro z
    constructor
    · intro hz
      refine spn_le Sx (fun v hv => ?_) hz
      obtain ⟨c, hc, rfl⟩ := List.mem_map.mp hv
      rcases (mem c).mp hc with rfl | ⟨b, hb, rfl⟩
      · exact inf
      · exact Sx.less (b.2 j) (inb b hb) inf
    · intro hz
      refine spn_le Sc (fun v hv => ?_) hz
      rcases List.mem_append.mp hv with hv | hv
      · obtain ⟨b, hb, rfl⟩ := List.mem_map.mp hv
        exact cb b hb
      · have : v = x := by simpa using hv
        rw [this]
        exact cx
end
end Lin
namespace OC
set_option linter.all false
open Lin
/-! ### first places -/
def fpR (r : List Int) : Nat := r.findIdx fun x => decide (x ≠ 0)
theorem fpR_le (r : List Int) : fpR r ≤ r.length := List.findIdx_le_length
theorem fpR_of {r : List Int} {j : Nat} (h : r.getD j 0 ≠ 0) (hl : ∀ i, i < j → r.getD i 0 = 0) : fpR r = j := by
  have hj : j < r.length := by
    rcases Nat.lt_or_ge j r.length with h' | h'
    · exact h'
    · exact absurd (gd_ge h') h
  unfold fpR
  rw [List.findIdx_eq hj]
  refine ⟨decide_eq_true (by rw [gd_lt hj] at h; exact h), fun i hi => ?_⟩
  have := hl i hi
  rw [gd_lt (by omega)] at this
  rw [this]
  rfl
theorem fpR_at {r : List Int} (h : fpR r < r.length) : r.getD (fpR r) 0 ≠ 0 := by
  have e := List.findIdx_getElem (xs := r) (p := fun x => decide (x ≠ 0)) (w := h)
  rw [gd_lt h]
  exact of_decide_eq_true e
theorem fpR_low {r : List Int} {i : Nat} (h : i < fpR r) : r.getD i 0 = 0 := by
  have hl : i < r.length := Nat.lt_of_lt_of_le h (fpR_le r)
  have e := List.not_of_lt_findIdx h
  rw [gd_lt hl]
  apply Classical.byContradiction
  intro hne
  have e2 : decide (r[i] ≠ 0) = true := decide_eq_true hne
  rw [e2] at e
  cases e
theorem fpR_all {r : List Int} (h : fpR r = r.length) : ∀ x ∈ r, x = 0 := by
  intro x hx
  obtain ⟨i, hi, rfl⟩ := List.getElem_of_mem hx
  have := fpR_low (r := r) (i := i) (by omega)
  rwa [gd_lt hi] at this
def leftR (p : Int) (room : List (List Int)) (r : List Int) : List Int := room.foldl (fun r b => lessR p r b (fpR b)) r
/-! ### the order of tuples -/
def codeR (B : Int) : List Int → Int
  | [] => 0
  | d :: r => d * B ^ r.length + codeR B r
theorem codeR_bd {B : Int} (hB : 0 < B) : ∀ r : List Int, (∀ x ∈ r, 0 ≤ x ∧ x < B) → 0 ≤ codeR B r ∧ codeR B r < B ^ r.length
  | [], _ => by
    refine ⟨Int.le_refl _, ?_⟩
    show (0 : Int) < B ^ 0
    rw [Int.pow_zero]
    decide
  | d :: r, h => by
    obtain ⟨c0, c1⟩ := codeR_bd hB r fun x hx => h x (List.mem_cons_of_mem _ hx)
    obtain ⟨d0, d1⟩ := h d List.mem_cons_self
    show 0 ≤ d * B ^ r.length + codeR B r ∧ d * B ^ r.length + codeR B r < B ^ (r.length + 1)
    rw [Int.pow_succ]
    generalize B ^ r.length = P at c1 ⊢
    generalize codeR B r = c at c0 c1 ⊢
    have p1 : (d + 1) * P ≤ B * P := Int.mul_le_mul_of_nonneg_right (by omega) (by omega)
    have p2 : 0 * P ≤ d * P := Int.mul_le_mul_of_nonneg_right d0 (by omega)
    rw [Int.add_mul, Int.one_mul, Int.mul_comm B P] at p1
    rw [Int.zero_mul] at p2
    generalize d * P = X at p1 p2 ⊢
    generalize P * B = Y at p1 ⊢
    constructor <;> omega
theorem fpR_zero (r : List Int) : fpR (0 :: r) = fpR r + 1 := by
  unfold fpR
  rw [List.findIdx_cons]
  simp
theorem fpR_nz {d : Int} (h : d ≠ 0) (r : List Int) : fpR (d :: r) = 0 := by
  unfold fpR
  rw [List.findIdx_cons]
  simp [h]
theorem code_lead {B : Int} (hB : 0 < B) : ∀ (a b : List Int), a.length = b.length → (∀ x ∈ a, 0 ≤ x ∧ x < B) → (∀ x ∈ b, 0 ≤ x ∧ x < B) → fpR b < fpR a → codeR B a < codeR B b
  | [], [], _, _, _, h => absurd h (Nat.lt_irrefl _)
  | [], _ :: _, e, _, _, _ => by cases e
  | _ :: _, [], e, _, _, _ => by cases e
  | x :: a, y :: b, e, ha, hb, h => by
    have e' : a.length = b.length := Nat.succ.inj e
    have x0 : x = 0 := by
      apply Classical.byContradiction
      intro hx
      rw [fpR_nz hx] at h
      exact Nat.not_lt_zero _ h
    subst x0
    have ha' : ∀ x ∈ a, 0 ≤ x ∧ x < B := fun x hx => ha x (List.mem_cons_of_mem _ hx)
    have hb' : ∀ x ∈ b, 0 ≤ x ∧ x < B := fun x hx => hb x (List.mem_cons_of_mem _ hx)
    show 0 * B ^ a.length + codeR B a < y * B ^ b.length + codeR B b
    by_cases hy : y = 0
    · subst hy
      rw [fpR_zero, fpR_zero] at h
      have := code_lead hB a b e' ha' hb' (by omega)
      omega
    · have c1 := (codeR_bd hB a ha').2
      have c2 := (codeR_bd hB b hb').1
      have y1 := (hb y List.mem_cons_self).1
      rw [e'] at c1
      generalize B ^ b.length = P at c1 ⊢
      rw [Int.zero_mul]
      have p1 : 1 * P ≤ y * P := by
        have c0 := (codeR_bd hB a ha').1
        exact Int.mul_le_mul_of_nonneg_right (by omega) (by omega)
      rw [Int.one_mul] at p1
      generalize y * P = X at p1 ⊢
      omega
/-! ### rows -/
section
variable {q : Nat} [NeZero q]
theorem toV_ne {r : List Int} (h : ∀ x ∈ r, 0 ≤ x ∧ x < (q : Int)) (i : Nat) : toV (q := q) r i ≠ 0 ↔ r.getD i 0 ≠ 0 := cF_ne (getD_lt q_pos h i)
theorem toV_eq0 {r : List Int} (h : ∀ x ∈ r, 0 ≤ x ∧ x < (q : Int)) (i : Nat) : toV (q := q) r i = 0 ↔ r.getD i 0 = 0 := by
  have := toV_ne h i
  constructor
  · intro e
    apply Classical.byContradiction
    intro hn
    exact this.mpr hn e
  · intro e
    apply Classical.byContradiction
    intro hn
    exact this.mp hn e
theorem fpR_lead {r : List Int} {j : Nat} (h : ∀ x ∈ r, 0 ≤ x ∧ x < (q : Int)) (hl : Lead (toV (q := q) r) j) : fpR r = j := fpR_of ((toV_ne h j).mp hl.1) fun i hi => (toV_eq0 h i).mp (hl.2 i hi)
theorem lead_fpR {r : List Int} (h : ∀ x ∈ r, 0 ≤ x ∧ x < (q : Int)) (hl : fpR r < r.length) : Lead (toV (q := q) r) (fpR r) := ⟨(toV_ne h _).mpr (fpR_at hl), fun i hi => (toV_eq0 h i).mpr (fpR_low hi)⟩
theorem leftR_sim {n : Nat} : ∀ (room : List (List Int)) (bs : List (Nat × Vec q)) (r : List Int), RowsOk q n room → RowsOk q n [r] → bs.map (·.2) = room.map (toV (q := q)) → (∀ b ∈ bs, Lead b.2 b.1) → RowsOk q n [leftR q room r] ∧ toV (q := q) (leftR q room r) = leftF bs (toV r)
  | [], [], r, _, h, _, _ => ⟨h, rfl⟩
  | [], _ :: _, _, _, _, e, _ => by cases e
  | _ :: _, [], _, _, _, e, _ => by cases e
  | c :: room, b :: bs, r, h1, h2, e, hl => by
    rw [List.map_cons, List.map_cons] at e
    obtain ⟨e1, e2⟩ := List.cons.inj e
    have hc := h1 c List.mem_cons_self
    have hr := h2 r List.mem_cons_self
    have fj : fpR c = b.1 := fpR_lead (q := q) hc.2 (by rw [← e1]; exact hl b List.mem_cons_self)
    have ok : RowsOk q n [lessR q r c (fpR c)] := fun x hx => by
      have : x = lessR q r c (fpR c) := by simpa using hx
      rw [this]
      exact less_row q_pos hr.1 hc.1 _
    obtain ⟨a1, a2⟩ := leftR_sim room bs (lessR q r c (fpR c)) (fun x hx => h1 x (List.mem_cons_of_mem _ hx)) ok e2 fun x hx => hl x (List.mem_cons_of_mem _ hx)
    refine ⟨a1, ?_⟩
    show toV (q := q) (leftR q room (lessR q r c (fpR c))) = leftF bs (lessV (toV r) b.2 b.1)
    rw [a2, toV_less (by rw [hr.1, hc.1]), fj, e1]
theorem q2 (hF : Fld (q : Int)) : 2 ≤ q := by
  have : (2 : Int) ≤ q := hF.1
  omega
theorem IsPF.left (hF : Fld (q : Int)) {n : Nat} {room : List (List Int)} (h : IsPF q n room) {r : List Int} (hr : RowsOk q n [r]) : ∃ bs, PF n bs ∧ bs.map (·.2) = room.map (toV (q := q)) ∧ RowsOk q n [leftR q room r] ∧ toV (q := q) (leftR q room r) = leftV bs (toV r) := by
  obtain ⟨ok, bs, pf, e⟩ := h
  obtain ⟨a1, a2⟩ := leftR_sim room bs r ok hr e fun b hb => pf.leads (one_ne (q2 hF)) hb
  exact ⟨bs, pf, e, a1, by rw [a2, pf.leftF]⟩
theorem noughts_toV {r : List Int} (h : ∀ x ∈ r, 0 ≤ x ∧ x < (q : Int)) : toV (q := q) r = zeroV ↔ ∀ x ∈ r, x = 0 := by
  constructor
  · intro e x hx
    obtain ⟨i, hi, rfl⟩ := List.getElem_of_mem hx
    have := (toV_eq0 h i).mp (congrFun e i)
    rwa [gd_lt hi] at this
  · intro e
    funext i
    refine (toV_eq0 h i).mpr ?_
    by_cases hi : i < r.length
    · rw [gd_lt hi]
      exact e _ (List.getElem_mem hi)
    · exact gd_ge (by omega)
/-- noughts are left just where the room has the row -/
theorem IsPF.left_zero (hF : Fld (q : Int)) {n : Nat} {room : List (List Int)} (h : IsPF q n room) {r : List Int} (hr : RowsOk q n [r]) : (∀ x ∈ leftR q room r, x = 0) ↔ Mk q room (toV r) := by
  obtain ⟨bs, pf, e, ok, et⟩ := h.left hF hr
  rw [← noughts_toV (ok _ List.mem_cons_self).2, et, Lin.left_zero pf, e]
  rfl
theorem perm_pw {α : Type} {R : α → α → Prop} {l m : List α} (hs : ∀ a b, R a b → R b a) (hp : l.Perm m) (h : m.Pairwise R) : l.Pairwise R := (hp.pairwise_iff fun {a b} => hs a b).mpr h
/-- the plain form behind one row more, as the program makes it -/
theorem IsPF.widen (hF : Fld (q : Int)) {n : Nat} {room : List (List Int)} (h : IsPF q n room) {r : List Int} (hr : RowsOk q n [r]) (hne : fpR (leftR q room r) < n) {rs : List (List Int)}
    (hp : rs.Perm (ownR q (leftR q room r) (fpR (leftR q room r)) :: room.map fun b => lessR q b (ownR q (leftR q room r) (fpR (leftR q room r))) (fpR (leftR q room r)))) (hs : rs.Pairwise fun a b => codeR q b ≤ codeR q a) : rs = plainR q n (room ++ [r]) := by
  obtain ⟨bs, pf, e, ok, et⟩ := h.left hF hr
  have okl := ok _ List.mem_cons_self
  have hall : RowsOk q n (room ++ [r]) := rowsOk_app h.1 hr
  have ld : Lead (leftV bs (toV r)) (fpR (leftR q room r)) := by
    rw [← et]
    exact lead_fpR okl.2 (by rw [okl.1]; exact hne)
  generalize hj : fpR (leftR q room r) = j at hne hp ld
  have eo : toV (q := q) (ownR q (leftR q room r) j) = ownV invF (leftV bs (toV r)) j := by
    rw [toV_own okl.2, et]
  have oko := own_row (q_pos (q := q)) okl.1 j
  generalize ownR q (leftR q room r) j = f at hp eo oko
  have okL : RowsOk q n (f :: room.map fun b => lessR q b f j) := fun x hx => by
    rcases List.mem_cons.mp hx with rfl | hx
    · exact oko
    · obtain ⟨b, hb, rfl⟩ := List.mem_map.mp hx
      exact less_row q_pos (h.1 b hb).1 oko.1 j
  have okS : RowsOk q n rs := fun x hx => okL x (hp.mem_iff.mp hx)
  have one1 := one_ne (q := q) (q2 hF)
  -- pairs of the list
  have pairs : (f :: room.map fun b => lessR q b f j).map (fun r => (fpR r, toV (q := q) r)) = moreV invF bs (leftV bs (toV r)) j := by
    have leadM : ∀ c ∈ moreV invF bs (leftV bs (toV r)) j, Lead c.2 c.1 := by
      intro c hc
      have yb : ∀ b ∈ bs, leftV bs (toV r) b.1 = 0 := fun b hb => left_at pf _ hb
      have fd : ∀ i, ownV invF (leftV bs (toV r)) j i = invF (leftV bs (toV r) j) * leftV bs (toV r) i := fun i => rfl
      rcases List.mem_cons.mp hc with rfl | hc
      · refine ⟨?_, fun i hi => ?_⟩
        · show ownV invF (leftV bs (toV r)) j j ≠ 0
          rw [fd, invF_ok hF _ ld.1]
          exact one1
        · show ownV invF (leftV bs (toV r)) j i = 0
          rw [fd, ld.2 i hi]
          grind
      · obtain ⟨b, hb, rfl⟩ := List.mem_map.mp hc
        refine ⟨?_, fun i hi => ?_⟩
        · show b.2 b.1 - b.2 j * ownV invF (leftV bs (toV r)) j b.1 ≠ 0
          rw [fd, yb b hb, pf.one b hb]
          have : (1 : Fin q) - b.2 j * (invF (leftV bs (toV r) j) * 0) = 1 := by grind
          rw [this]
          exact one1
        · have hi : i < b.1 := hi
          show b.2 i - b.2 j * ownV invF (leftV bs (toV r)) j i = 0
          rw [fd, pf.low b hb i hi]
          rcases Nat.lt_or_ge i j with h' | h'
          · rw [ld.2 i h']
            grind
          · rw [pf.low b hb j (by omega)]
            grind
    have e2 : (f :: room.map fun b => lessR q b f j).map (toV (q := q)) = (moreV invF bs (leftV bs (toV r)) j).map (·.2) := by
      unfold moreV
      rw [List.map_cons, List.map_cons, eo, List.map_map, List.map_map]
      congr 1
      have e3 : bs.map ((fun b : Nat × Vec q => b.2) ∘ fun b => (b.1, lessV b.2 (ownV invF (leftV bs (toV r)) j) j)) = (bs.map (·.2)).map fun v => lessV v (ownV invF (leftV bs (toV r)) j) j := by
        rw [List.map_map]
        rfl
      rw [e3, e, List.map_map]
      apply List.map_congr_left
      intro x hx
      show toV (lessR q x f j) = lessV (toV x) (ownV invF (leftV bs (toV r)) j) j
      rw [toV_less (by rw [(h.1 x hx).1, oko.1]), eo]
    have key : ∀ (L : List (List Int)) (M : List (Nat × Vec q)), RowsOk q n L → (∀ c ∈ M, Lead c.2 c.1) → L.map (toV (q := q)) = M.map (·.2) → L.map (fun r => (fpR r, toV (q := q) r)) = M := by
      intro L
      induction L with
      | nil =>
        intro M _ _ e
        cases M with
        | nil => rfl
        | cons m M => cases e
      | cons x L ih =>
        intro M ok lm e
        cases M with
        | nil => cases e
        | cons m M =>
          rw [List.map_cons, List.map_cons] at e
          obtain ⟨a1, a2⟩ := List.cons.inj e
          rw [List.map_cons, ih M (fun y hy => ok y (List.mem_cons_of_mem _ hy)) (fun c hc => lm c (List.mem_cons_of_mem _ hc)) a2]
          congr 1
          have := lm m List.mem_cons_self
          rw [← a1] at this
          rw [fpR_lead (ok x List.mem_cons_self).2 this, a1]
    exact key _ _ okL leadM e2
  have pm : (rs.map fun r => (fpR r, toV (q := q) r)).Perm (moreV invF bs (leftV bs (toV r)) j) := by
    rw [← pairs]
    exact hp.map _
  have dist : (moreV invF bs (leftV bs (toV r)) j).Pairwise fun a b => a.1 ≠ b.1 := by
    unfold moreV
    rw [List.pairwise_cons]
    constructor
    · intro c hc
      obtain ⟨b, hb, rfl⟩ := List.mem_map.mp hc
      intro z
      have z : j = b.1 := z
      apply ld.1
      rw [z]
      exact left_at pf _ hb
    · rw [List.pairwise_map]
      exact pf.inc.imp fun {a b} hab => by
        show a.1 ≠ b.1
        omega
  have dist2 := perm_pw (fun a b hab => Ne.symm hab) pm dist
  rw [List.pairwise_map] at dist2
  have inc : (rs.map fun r => (fpR r, toV (q := q) r)).Pairwise fun a b => a.1 < b.1 := by
    rw [List.pairwise_map]
    refine List.Pairwise.imp_of_mem (fun {a b} ha hb hab => ?_) (dist2.and hs)
    obtain ⟨h1, h2⟩ := hab
    have h1 : fpR a ≠ fpR b := h1
    show fpR a < fpR b
    apply Classical.byContradiction
    intro hn
    have := code_lead (q_pos (q := q)) a b (by rw [(okS a ha).1, (okS b hb).1]) (okS a ha).2 (okS b hb).2 (by omega)
    omega
  obtain ⟨g1, g2⟩ := moreV_pf invF pf (invF_ok hF) (x := toV r) (fun i hi => toV_wid (hr r List.mem_cons_self).1 i hi) ld pm inc
  have em : (rs.map fun r => (fpR r, toV (q := q) r)).map (·.2) = rs.map (toV (q := q)) := by
    rw [List.map_map]
    rfl
  refine IsPF.plain hF ⟨okS, _, g1, em⟩ hall fun x => ?_
  have := g2 x
  rw [em, e] at this
  unfold Mk
  rw [List.map_append]
  exact this
/-- a made row makes nothing new -/
theorem IsPF.widen0 (hF : Fld (q : Int)) {n : Nat} {room : List (List Int)} (h : IsPF q n room) {r : List Int} (hr : RowsOk q n [r]) (hne : ∀ x ∈ leftR q room r, x = 0) : room = plainR q n (room ++ [r]) := by
  have hm := (h.left_zero hF hr).mp hne
  exact IsPF.plain hF h (rowsOk_app h.1 hr) fun x => (mk_app_of hm x).symm
theorem isPF_iff (hF : Fld (q : Int)) {n : Nat} {room : List (List Int)} : IsPF q n room ↔ RowsOk q n room ∧ plainR q n room = room :=
  ⟨fun h => ⟨h.1, (IsPF.plain hF h h.1 fun _ => Iff.rfl).symm⟩, fun h => by
    have := plainR_pf hF h.1
    rwa [h.2] at this⟩
end
/-- a plain form: rows that are their own plain form -/
def PFR (p : Int) (n : Nat) (room : List (List Int)) : Prop := RowsOk p n room ∧ plainR p n room = room
theorem to_q {p : Int} (hF : Fld p) : ∃ q : Nat, p = (q : Int) ∧ ∃ _ : NeZero q, Fld (q : Int) := by
  have h2 := hF.1
  obtain ⟨q, rfl⟩ := Int.eq_ofNat_of_zero_le (show 0 ≤ p by omega)
  exact ⟨q, rfl, ⟨by omega⟩, hF⟩
theorem PFR.of_plain {p : Int} (hF : Fld p) {n : Nat} {rows : List (List Int)} (h : RowsOk p n rows) : PFR p n (plainR p n rows) := by
  obtain ⟨q, rfl, _, hF⟩ := to_q hF
  exact (isPF_iff hF).mp (plainR_pf hF h)
theorem PFR.nil {p : Int} (hF : Fld p) (n : Nat) : PFR p n [] := by
  have := PFR.of_plain hF (n := n) (rowsOk_nil (p := p))
  have e : plainR p n [] = [] := by
    have h : ∀ k, (List.range k).foldl (stepR p) (([] : List (List Int)), ([] : List (List Int))) = ([], []) := by
      intro k
      induction k with
      | zero => rfl
      | succ k ih => rw [List.range_succ, List.foldl_append, ih]; rfl
    unfold plainR
    rw [h]
  exact ⟨rowsOk_nil, e⟩
theorem PFR.left_ok {p : Int} (hF : Fld p) {n : Nat} {room : List (List Int)} (h : PFR p n room) {r : List Int} (hr : RowsOk p n [r]) : RowsOk p n [leftR p room r] := by
  obtain ⟨q, rfl, _, hF⟩ := to_q hF
  obtain ⟨_, _, _, ok, _⟩ := ((isPF_iff hF).mpr h).left hF hr
  exact ok
theorem PFR.widen {p : Int} (hF : Fld p) {n : Nat} {room : List (List Int)} (h : PFR p n room) {r : List Int} (hr : RowsOk p n [r]) (hne : fpR (leftR p room r) < n) {rs : List (List Int)}
    (hp : rs.Perm (ownR p (leftR p room r) (fpR (leftR p room r)) :: room.map fun b => lessR p b (ownR p (leftR p room r) (fpR (leftR p room r))) (fpR (leftR p room r)))) (hs : rs.Pairwise fun a b => codeR p b ≤ codeR p a) : rs = plainR p n (room ++ [r]) := by
  obtain ⟨q, rfl, _, hF⟩ := to_q hF
  exact ((isPF_iff hF).mpr h).widen hF hr hne hp hs
theorem PFR.widen0 {p : Int} (hF : Fld p) {n : Nat} {room : List (List Int)} (h : PFR p n room) {r : List Int} (hr : RowsOk p n [r]) (hne : ∀ x ∈ leftR p room r, x = 0) : room = plainR p n (room ++ [r]) := by
  obtain ⟨q, rfl, _, hF⟩ := to_q hF
  exact ((isPF_iff hF).mpr h).widen0 hF hr hne
/-- noughts are left just where one row more makes nothing new -/
theorem PFR.left_has {p : Int} (hF : Fld p) {n : Nat} {room : List (List Int)} (h : PFR p n room) {r : List Int} (hr : RowsOk p n [r]) : (∀ x ∈ leftR p room r, x = 0) ↔ (plainR p n (room ++ [r])).length = (plainR p n room).length := by
  obtain ⟨q, rfl, _, hF⟩ := to_q hF
  rw [((isPF_iff hF).mpr h).left_zero hF hr]
  exact (plainR_has hF h.1 hr).symm
/-- the plain form of a plain form and more rows -/
theorem plainR_app {p : Int} (hF : Fld p) {n : Nat} {rows ts : List (List Int)} (h : RowsOk p n rows) (ht : RowsOk p n ts) : plainR p n (plainR p n rows ++ ts) = plainR p n (rows ++ ts) := by
  obtain ⟨q, rfl, _, hF⟩ := to_q hF
  refine plainR_congr hF (rowsOk_app (plainR_rows h) ht) (rowsOk_app h ht) fun x => ?_
  unfold Mk
  rw [List.map_append, List.map_append]
  constructor
  · intro hx
    refine spn_le (spn_sub _) (fun v hv => ?_) hx
    rcases List.mem_append.mp hv with hv | hv
    · exact spn_left ((plainR_mk hF h v).mp (spn_mem hv))
    · exact spn_right (spn_mem hv)
  · intro hx
    refine spn_le (spn_sub _) (fun v hv => ?_) hx
    rcases List.mem_append.mp hv with hv | hv
    · exact spn_left ((plainR_mk hF h v).mpr (spn_mem hv))
    · exact spn_right (spn_mem hv)
theorem plainR_lenle {p : Int} (hF : Fld p) {n : Nat} {rows : List (List Int)} (h : RowsOk p n rows) : (plainR p n rows).length ≤ n := by
  obtain ⟨q, rfl, _, hF⟩ := to_q hF
  obtain ⟨_, bs, pf, e⟩ := plainR_pf hF h
  have e1 := congrArg List.length e
  rw [List.length_map, List.length_map] at e1
  rw [← e1]
  have h1 : (bs.map (·.1)).Pairwise (· < ·) := List.pairwise_map.mpr pf.inc
  have h2 := (sorted_len h1 (List.pairwise_lt_range (n := n)) fun x hx => by
    obtain ⟨b, hb, rfl⟩ := List.mem_map.mp hx
    exact List.mem_range.mpr (pf.lt b hb)).1
  rw [List.length_map, List.length_range] at h2
  exact h2
end OC
set_option Elab.async false
set_option linter.all false
set_option maxRecDepth 100000
/-! what laws share of rows as ints and as data -/
namespace OC
open PySem PySem.Spec PyProof.Rows L2
def plusR (p : Int) (x y : List Int) (m : Int) : List Int := List.zipWith (fun a b => (a + m * b) % p) x y
theorem plus_len {p : Int} {x y : List Int} {m : Int} (h : x.length = y.length) : (plusR p x y m).length = x.length := by
  unfold plusR
  rw [List.length_zipWith]
  omega
theorem plus_ok {p : Int} {x y : List Int} {m : Int} (hp : 0 < p) : RowOk p (plusR p x y m) := by
  intro z hz
  unfold plusR at hz
  rw [List.mem_iff_getElem?] at hz
  obtain ⟨i, hi⟩ := hz
  rw [List.getElem?_zipWith] at hi
  split at hi
  · cases Option.some.inj hi
    exact ⟨Int.emod_nonneg _ (by omega), Int.emod_lt_of_pos _ hp⟩
  · cases hi
def addR (p : Int) (x y : List Int) : List Int := List.zipWith (fun a b => (a + b) % p) x y
def timesR (p a : Int) (x : List Int) : List Int := x.map fun r => a * r % p
def PR8 : List Int := [5, 7, 11, 101, 5, 13, 97, 23]
theorem pr8_bd : ∀ p ∈ PR8, 5 ≤ p ∧ p ≤ 101 := by decide +kernel
def lstD (r : List Int) : PyData := .list (r.map PyData.int)
def intsOf : PyData → List Int
  | .list ds => ds.map fun d => match d with | .int i => i | _ => 0
  | .tuple ds => ds.map fun d => match d with | .int i => i | _ => 0
  | _ => []
theorem ints_lst (r : List Int) : intsOf (lstD r) = r := by
  show (r.map PyData.int).map _ = r
  rw [List.map_map]
  exact List.map_id r
theorem ints_row (r : List Int) : intsOf (rowD r) = r := by
  show (r.map PyData.int).map _ = r
  rw [List.map_map]
  exact List.map_id r
def nzAt (k : Nat) (d : PyData) : Bool := decide ((intsOf d).getD k 0 ≠ 0)
theorem rep_lst_ints {K : PySem.W.Frag} {H : Hp} {bad : Addr → Prop} : ∀ {xs : List V} {r : List Int}, RepAll K H bad xs (r.map PyData.int) → xs = r.map V.int
  | _, [], h => by cases h; rfl
  | _, n :: r, h => by
    cases h with
    | cons h1 h2 =>
      cases h1
      rw [rep_lst_ints h2]
      rfl
theorem rep_lst {K : PySem.W.Frag} {H : Hp} {bad : Addr → Prop} {v : V} {r : List Int} (h : Rep K H bad v (lstD r)) : ∃ l, v = .ref l ∧ H l = some (.lst (r.map V.int)) := by
  unfold lstD at h
  cases h with
  | lst hs hb ha => exact ⟨_, rfl, (rep_lst_ints ha) ▸ hs⟩
theorem rep_row {K : PySem.W.Frag} {H : Hp} {bad : Addr → Prop} {v : V} {r : List Int} (h : Rep K H bad v (rowD r)) : ∃ l, v = .ref l ∧ SqT K H l (r.map V.int) := by
  unfold rowD at h
  cases h with
  | tup hs ha => exact ⟨_, rfl, (rep_lst_ints ha) ▸ hs⟩
theorem rep_rows {K : PySem.W.Frag} {H : Hp} {bad : Addr → Prop} : ∀ {ws : List V} {rs : List (List Int)}, DpAll K H ws (rs.map rowD) → RepAll K H bad ws (rs.map rowD)
  | _, [], h => by cases h; exact .nil
  | _, r :: rs, h => by
    cases h with
    | cons h1 h2 =>
      obtain ⟨a, rfl, ha⟩ := dp_row h1
      exact .cons (row_rep ha) (rep_rows h2)
theorem rows_rep {K : PySem.W.Frag} {H : Hp} {bad : Addr → Prop} : ∀ {ws : List V} {rs : List (List Int)}, RepAll K H bad ws (rs.map rowD) → DpAll K H ws (rs.map rowD)
  | _, [], h => by cases h; exact .nil
  | _, r :: rs, h => by
    cases h with
    | cons h1 h2 =>
      obtain ⟨a, rfl, ha⟩ := rep_row h1
      exact .cons (row_dp ha) (rows_rep h2)
theorem foldl_succ {α : Type} (f : α → Nat → α) (a : α) (k : Nat) : (List.range (k + 1)).foldl f a = f ((List.range k).foldl f a) k := by
  rw [List.range_succ, List.foldl_append]
  rfl
theorem dpAll_take {K : PySem.W.Frag} {H : Hp} : ∀ {xs : List V} {ds : List PyData} (k : Nat), DpAll K H xs ds → DpAll K H (xs.take k) (ds.take k)
  | _, _, 0, _ => by rw [List.take_zero, List.take_zero]; exact .nil
  | _, _, _ + 1, .nil => .nil
  | _, _, k + 1, .cons h1 h2 => .cons h1 (dpAll_take k h2)
theorem plainR_nil (p : Int) (n : Nat) : plainR p n [] = [] := by
  have h : ∀ k, (List.range k).foldl (stepR p) (([] : List (List Int)), ([] : List (List Int))) = ([], []) := by
    intro k
    induction k with
    | zero => rfl
    | succ k ih => rw [foldl_succ, ih]; rfl
  unfold plainR
  rw [h]
def hasR (p : Int) (n : Nat) (rs : List (List Int)) (r : List Int) : Bool := decide ((plainR p n (rs ++ [r])).length = (plainR p n rs).length)
def fldB (p : Nat) : Bool := decide (2 ≤ p) && (List.range p).all fun a => a == 0 || (List.range p).any fun b => a * b % p == 1
theorem fld_of {p : Nat} (h : fldB p = true) : Fld (p : Int) := by
  unfold fldB at h
  rw [Bool.and_eq_true] at h
  obtain ⟨h2, h⟩ := h
  have h2 := of_decide_eq_true h2
  refine ⟨by omega, fun a a1 ap => ?_⟩
  have ha := List.all_eq_true.mp h a.toNat (List.mem_range.mpr (by omega))
  rw [Bool.or_eq_true] at ha
  rcases ha with ha | ha
  · have := eq_of_beq ha
    omega
  · obtain ⟨b, hb, e⟩ := List.any_eq_true.mp ha
    have e := eq_of_beq e
    have hb := List.mem_range.mp hb
    refine ⟨(b : Int), ?_, by omega, ?_⟩
    · cases b with
      | zero => rw [Nat.mul_zero, Nat.zero_mod] at e; cases e
      | succ b => omega
    · have e2 : ((a.toNat * b % p : Nat) : Int) = 1 := by rw [e]; rfl
      rw [Int.natCast_emod, Int.natCast_mul, Int.toNat_of_nonneg (by omega)] at e2
      exact e2
theorem pr8_fld : ∀ p ∈ PR8, Fld p := by
  intro p hp
  have h : ∀ p ∈ PR8, fldB p.toNat = true := by decide +kernel
  have b := pr8_bd p hp
  have := fld_of (h p hp)
  rwa [Int.toNat_of_nonneg (by omega)] at this
end OC
set_option Elab.async false
set_option linter.all false
set_option maxRecDepth 100000
/-! what the promises of the program's own defs rest on -/
namespace OC
open PySem PySem.Spec PyProof.Rows L2 Lin
theorem less_eq {p : Int} : ∀ (c : Int) (x y : List Int), addR p x (timesR p (p - c) y) = List.zipWith (fun r m => (r - c * m) % p) x y
  | _, [], _ => rfl
  | _, _ :: _, [] => rfl
  | c, a :: x, b :: y => by
    have ih := less_eq (p := p) c x y
    unfold addR timesR at ih ⊢
    rw [List.map_cons, List.zipWith_cons_cons, List.zipWith_cons_cons, ih, Int.add_emod_emod]
    congr 1
    rw [show a + (p - c) * b = (a - c * b) + p * b by grind, Int.add_mul_emod_self_left]
theorem less_zero {p : Int} : ∀ (x y : List Int), x.length = y.length → RowOk p x → List.zipWith (fun r m => (r - 0 * m) % p) x y = x
  | [], _, _, _ => rfl
  | _ :: _, [], e, _ => by cases e
  | a :: x, b :: y, e, h => by
    rw [List.zipWith_cons_cons, less_zero x y (Nat.succ.inj e) fun z hz => h z (List.mem_cons_of_mem _ hz)]
    have := h a List.mem_cons_self
    rw [Int.zero_mul, Int.sub_zero, Int.emod_eq_of_lt this.1 this.2]
theorem ctr_uniq {p a b : Int} (hF : Fld p) (h0 : 1 ≤ a) (h1 : a < p) (b0 : 1 ≤ b) (b1 : b < p) (e : a * b % p = 1) : b = ctr p a := by
  obtain ⟨c0, c1, c2⟩ := ctr_ok hF h0 h1
  generalize ctr p a = c at c0 c1 c2
  have h2 := hF.1
  have e1 : b * (a * c) % p = b := by
    rw [Int.mul_emod, c2, Int.mul_one, Int.emod_emod]
    exact Int.emod_eq_of_lt (by omega) b1
  have e2 : b * (a * c) % p = c := by
    rw [show b * (a * c) = (a * b) * c by grind, Int.mul_emod, e, Int.one_mul, Int.emod_emod]
    exact Int.emod_eq_of_lt c0 c1
  omega
/-- rows in a tuple -/
def RowsAt (K : PySem.W.Frag) (H : Hp) (a : Addr) (rs : List (List Int)) : Prop := ∃ ws, SqT K H a ws ∧ DpAll K H ws (rs.map rowD)
theorem RowsAt.same {K : PySem.W.Frag} {H H' : Hp} {a : Addr} {rs : List (List Int)} (s : Same H H') (h : RowsAt K H a rs) : RowsAt K H' a rs := by
  obtain ⟨ws, h1, h2⟩ := h
  exact ⟨ws, Same.tup s h1, dpAll_same s _ _ h2⟩
theorem rows_len {K : PySem.W.Frag} {H : Hp} {ws : List V} {rs : List (List Int)} (h : DpAll K H ws (rs.map rowD)) : ws.length = rs.length := by
  have := dpAll_len h
  rwa [List.length_map] at this
theorem PFR.fp_lt {p : Int} (hF : Fld p) {n : Nat} {room : List (List Int)} (h : PFR p n room) : ∀ b ∈ room, fpR b < n := by
  obtain ⟨q, rfl, _, hF⟩ := to_q hF
  obtain ⟨ok, bs, pf, e⟩ := (isPF_iff hF).mpr h
  intro b hb
  have : toV (q := q) b ∈ bs.map (·.2) := by rw [e]; exact List.mem_map_of_mem hb
  obtain ⟨c, hc, ec⟩ := List.mem_map.mp this
  have := pf.leads (one_ne (q2 hF)) hc
  rw [ec] at this
  rw [fpR_lead (ok b hb).2 this]
  exact pf.lt c hc
/-- a room of all rows gets no wider -/
theorem plain_full {p : Int} (hF : Fld p) {n : Nat} {rows ts : List (List Int)} (h : RowsOk p n rows) (ht : RowsOk p n ts) (hl : (plainR p n rows).length = n) : plainR p n (rows ++ ts) = plainR p n rows := by
  have hle := plainR_lenle hF (rowsOk_app h ht)
  obtain ⟨q, rfl, _, hF⟩ := to_q hF
  obtain ⟨_, bs, pb, eb⟩ := plainR_pf hF h
  obtain ⟨_, cs, pc, ec⟩ := plainR_pf hF (rowsOk_app h ht)
  have lb := congrArg List.length eb
  have lc := congrArg List.length ec
  rw [List.length_map, List.length_map] at lb lc
  have sub : ∀ x, Spn (bs.map (·.2)) x → Spn (cs.map (·.2)) x := fun x hx => by
    rw [eb] at hx
    rw [ec]
    refine (plainR_mk hF (rowsOk_app h ht) x).mpr ?_
    unfold Mk
    rw [List.map_append]
    exact spn_left ((plainR_mk hF h x).mp hx)
  refine ((plainR_pf hF (rowsOk_app h ht)).uniq hF (plainR_pf hF h) fun x => ?_)
  unfold Mk
  rw [← eb, ← ec]
  exact ⟨fun hx => pb.same_of_len pc (one_ne (q2 hF)) sub (by omega) hx, sub x⟩
theorem dpAll_perm {K : PySem.W.Frag} {H : Hp} {ys xs : List V} (hp : ys.Perm xs) : ∀ {rs : List (List Int)}, DpAll K H xs (rs.map rowD) → ∃ rs' : List (List Int), rs'.Perm rs ∧ DpAll K H ys (rs'.map rowD) := by
  induction hp with
  | nil => exact fun {rs} h => ⟨rs, List.Perm.refl _, h⟩
  | cons x _ ih =>
    intro rs h
    cases rs with
    | nil => cases h
    | cons r rs =>
      cases h with
      | cons h1 h2 =>
        obtain ⟨rs', p, d⟩ := ih h2
        exact ⟨r :: rs', p.cons r, .cons h1 d⟩
  | swap x y l =>
    intro rs h
    match rs, h with
    | [], h => cases h
    | [r], h =>
      cases h with
      | cons h1 h2 => cases h2
    | r1 :: r2 :: rs, h =>
      cases h with
      | cons h1 h2 =>
        cases h2 with
        | cons h2 h3 => exact ⟨r2 :: r1 :: rs, List.Perm.swap _ _ _, .cons h2 (.cons h1 h3)⟩
  | trans _ _ ih1 ih2 =>
    intro rs h
    obtain ⟨r1, p1, d1⟩ := ih2 h
    obtain ⟨r2, p2, d2⟩ := ih1 d1
    exact ⟨r2, p2.trans p1, d2⟩
theorem code_eq (B : Int) : ∀ r : List Int, TS.code B r = codeR B r
  | [] => rfl
  | d :: r => by
    show d * B ^ r.length + TS.code B r = d * B ^ r.length + codeR B r
    rw [code_eq B r]
theorem dpAll_pw {K : PySem.W.Frag} {H : Hp} {B : Int} : ∀ {ys : List V} {rs : List (List Int)}, DpAll K H ys (rs.map rowD) → ys.Pairwise (fun x y => ∀ n m, TupI K H x n → TupI K H y m → TS.code B m ≤ TS.code B n) → rs.Pairwise fun a b => codeR B b ≤ codeR B a
  | _, [], _, _ => List.Pairwise.nil
  | _, r :: rs, h, hp => by
    cases h with
    | @cons y ys _ _ h1 h2 =>
      obtain ⟨p1, p2⟩ := List.pairwise_cons.mp hp
      refine List.pairwise_cons.mpr ⟨fun b hb => ?_, dpAll_pw h2 p2⟩
      obtain ⟨i, hi, rfl⟩ := List.getElem_of_mem hb
      have hi' : i < ys.length := by rw [rows_len h2]; exact hi
      obtain ⟨c, r2, ec, gr, _, hc⟩ := dpAll_row h2 (List.getElem?_eq_getElem hi')
      rw [List.getElem?_eq_getElem hi] at gr
      have er : rs[i] = r2 := Option.some.inj gr
      obtain ⟨a, ea, ha⟩ := dp_row h1
      have := p1 ys[i] (List.getElem_mem hi') r rs[i] ⟨a, ea, ha⟩ ⟨c, ec, by rw [er]; exact hc⟩
      rwa [code_eq, code_eq] at this
theorem hasR_iff {p : Int} (hF : Fld p) {n : Nat} {room : List (List Int)} (h : PFR p n room) {r : List Int} (hr : RowsOk p n [r]) : (leftR p room r).all (fun x => decide (x = 0)) = hasR p n room r := by
  have e := PFR.left_has hF h hr
  unfold hasR
  by_cases c : (plainR p n (room ++ [r])).length = (plainR p n room).length
  · rw [decide_eq_true c, List.all_eq_true]
    exact fun x hx => decide_eq_true (e.mpr c x hx)
  · rw [decide_eq_false c, Bool.eq_false_iff]
    intro z
    exact c (e.mp fun x hx => of_decide_eq_true (List.all_eq_true.mp z x hx))
theorem rowOk_getD {p : Int} {r : List Int} {n : Nat} (h : r.length = n ∧ ∀ x ∈ r, 0 ≤ x ∧ x < p) {j : Nat} (hj : j < n) : 0 ≤ r.getD j 0 ∧ r.getD j 0 < p := by
  rw [gd_lt (by omega)]
  exact h.2 _ (List.getElem_mem _)
theorem at_row {r : List Int} {j : Nat} (h : j < r.length) : atI (r.map V.int) (j : Int) = some (.int (r.getD j 0)) := at_of (j := j) rfl (by rw [List.getElem?_map, List.getElem?_eq_getElem h, gd_lt h]; rfl)
theorem rowsOk_one {p : Int} {n : Nat} {r : List Int} (h : r.length = n ∧ ∀ x ∈ r, 0 ≤ x ∧ x < p) : RowsOk p n [r] := fun x hx => by
  have : x = r := by simpa using hx
  rw [this]
  exact h
theorem leftR_take {p : Int} {room : List (List Int)} {r : List Int} {i : Nat} {b : List Int} (h : room[i]? = some b) : leftR p (room.take (i + 1)) r = lessR p (leftR p (room.take i) r) b (fpR b) := by
  unfold leftR
  rw [List.take_add_one, h, List.foldl_append]
  rfl
theorem leftR_ok {p : Int} (hp : 0 < p) {n : Nat} : ∀ (room : List (List Int)) (r : List Int), RowsOk p n room → RowsOk p n [r] → RowsOk p n [leftR p room r]
  | [], _, _, h => h
  | b :: room, r, h1, h2 => leftR_ok hp room _ (fun x hx => h1 x (List.mem_cons_of_mem _ hx)) (rowsOk_one (less_row hp (h2 r List.mem_cons_self).1 (h1 b List.mem_cons_self).1 _))
end OC
set_option Elab.async false
set_option linter.all false
set_option maxRecDepth 100000
/-! rooms as data; comprehensions of plain values -/
namespace OC
open PySem PySem.Spec PyProof.Rows L2 Lin
abbrev Bad (d c : Addr) : Addr → Prop := fun a => a = d ∨ a = c
theorem Deck.fresh {H : Hp} {d c p : Addr} {t : Int} (D : Deck H d c t) (n : H p = none) : ¬ Bad d c p := by
  obtain ⟨hd, ⟨cells, h1, h2⟩, _, t0⟩ := D
  rintro (z | z)
  · subst z; rw [hd] at n; cases n
  · subst z; rw [h1] at n; cases n
def L0 : PyData → Prop := fun _ => False
theorem Stays.kept2 {bad : Addr → Prop} {d c : Addr} {t : Int} {H H' : Hp} (D : Deck H d c t) (k : Kept d c H H') (bd : bad d) (bc : bad c) : Stays bad H H' := by
  have s := Stays.kept D k
  refine ⟨s.t, s.d, fun a xs h n => k a _ h (fun z => n (by rw [z]; exact bd)) (fun z => n (by rw [z]; exact bc))⟩
theorem Deck.mut {H : Hp} {d c B : Addr} {t : Int} {o : HO} (D : Deck H d c t) (b : ¬ Bad d c B) : Deck (upd H B o) d c t := by
  obtain ⟨hd, ⟨cells, h1, h2⟩, n, t0⟩ := D
  exact ⟨by rw [upd_ne (fun z => b (.inl z.symm))]; exact hd, ⟨cells, by rw [upd_ne (fun z => b (.inr z.symm))]; exact h1, h2⟩, n, t0⟩
theorem Kept.mut {H H' : Hp} {d c B : Addr} {o : HO} (k : Kept d c H H') (n : H B = none) : Kept d c H (upd H' B o) := fun b x h n1 n2 => by
  rw [upd_ne (ne_of_none h n)]
  exact k b x h n1 n2
theorem Kept.rows {K : PySem.W.Frag} {H H' : Hp} {d c : Addr} {t : Int} {a : Addr} {rs : List (List Int)} (D : Deck H d c t) (k : Kept d c H H') (h : RowsAt K H a rs) : RowsAt K H' a rs := by
  obtain ⟨ws, h1, h2⟩ := h
  exact ⟨ws, Kept.tup D k h1, dpAll_tk (Tk.kept D k) _ _ (noL_rows rs) h2⟩
/-! ### rooms as data -/
theorem isRow_row {p : Int} {n : Nat} {r : List Int} (h : r.length = n ∧ ∀ x ∈ r, 0 ≤ x ∧ x < p) : isRowD p n (rowD r) = true := by
  show (decide (((r.map PyData.int).length : Int) = n) && (r.map PyData.int).all (restD p)) = true
  rw [List.length_map, h.1, decide_eq_true rfl, Bool.true_and, List.all_map, List.all_eq_true]
  intro x hx
  show (decide (0 ≤ x) && decide (x < p)) = true
  have := h.2 x hx
  rw [decide_eq_true this.1, decide_eq_true this.2]
  rfl
end OC
set_option Elab.async false
set_option linter.all false
set_option maxRecDepth 100000
/-! lists of things, filled while the deck is drawn from -/
namespace OC
open PySem PySem.Spec PyProof.Rows L2
theorem cut_upto {xs : List V} {i : Int} (h0 : 0 ≤ i) : cutV xs none (some i) = xs.take i.toNat := by
  unfold cutV
  have e : HT.sIx xs.length xs.length (some i) = min i.toNat xs.length := by
    have := HT.sIx_nat xs.length xs.length i.toNat
    rw [show ((i.toNat : Nat) : Int) = i by omega] at this
    exact this
  rw [e, HT.sIx_none, List.drop_zero, Nat.sub_zero, ← List.take_eq_take_min]
structure Th (K : PySem.W.Frag) (H : Hp) (d c M : Addr) (vs : List V) (es : List PyData) : Prop where
  m : H M = some (.lst vs)
  nb : ¬ Bad d c M
  r : RepAll K H (fun a => Bad d c a ∨ a = M) vs es
section
variable {K : PySem.W.Frag} {H H' : Hp} {d c M : Addr} {t : Int} {vs : List V} {es : List PyData}
theorem Th.same (h : Th K H d c M vs es) (s : Same H H') : Th K H' d c M vs es := ⟨s _ _ h.m, h.nb, repAll_stays (Stays.of s) _ _ h.r⟩
theorem Th.kept (h : Th K H d c M vs es) (D : Deck H d c t) (k : Kept d c H H') : Th K H' d c M vs es :=
  ⟨k _ _ h.m (fun z => h.nb (.inl z)) (fun z => h.nb (.inr z)), h.nb, repAll_stays (Stays.kept2 D k (.inl (.inl rfl)) (.inl (.inr rfl))) _ _ h.r⟩
theorem Th.push (h : Th K H d c M vs es) {v : V} {e : PyData} (r : Rep K H (fun a => Bad d c a ∨ a = M) v e) : Th K (upd H M (.lst (vs ++ [v]))) d c M (vs ++ [v]) (es ++ [e]) := by
  have st : Stays (fun a => Bad d c a ∨ a = M) H (upd H M (.lst (vs ++ [v]))) := upd_stays (Stays.of (Same.refl H)) h.m (.inr rfl)
  exact ⟨upd_same, h.nb, repAll_append (repAll_stays st _ _ h.r) (.cons (rep_stays st _ _ r) .nil)⟩
theorem Th.len (h : Th K H d c M vs es) : vs.length = es.length := repAll_len h.r
end
end OC
set_option Elab.async false
set_option linter.all false
set_option maxRecDepth 100000
/-! across: the program's own rows, and what they are -/
namespace OC
open PySem PySem.Spec PyProof.Rows L2 Lin
def crossF (p : Int) (room : List (List Int)) (j : Nat) (r0 : List Int) : List Int := room.foldl (fun r b => r.set (fpR b) ((-(b.getD j 0)) % p)) r0
def crossR (p : Int) (n : Nat) (room : List (List Int)) (j : Nat) : List Int := crossF p room j ((List.replicate n 0).set j 1)
def freesR (n : Nat) (room : List (List Int)) : List Nat := (List.range n).filter fun j => !decide (j ∈ room.map fpR)
def acrossR (p : Int) (n : Nat) (room : List (List Int)) : List (List Int) := plainR p n ((freesR n room).map (crossR p n room))
theorem crossF_len (p : Int) (j : Nat) : ∀ (room : List (List Int)) (r0 : List Int), (crossF p room j r0).length = r0.length
  | [], _ => rfl
  | b :: room, r0 => by
    show (crossF p room j (r0.set (fpR b) _)).length = _
    rw [crossF_len p j room, List.length_set]
theorem crossF_ok {p : Int} (hp : 0 < p) (j : Nat) : ∀ (room : List (List Int)) (r0 : List Int), (∀ x ∈ r0, 0 ≤ x ∧ x < p) → ∀ x ∈ crossF p room j r0, 0 ≤ x ∧ x < p
  | [], _, h => h
  | b :: room, r0, h => crossF_ok hp j room _ fun x hx => by
    rcases List.mem_or_eq_of_mem_set hx with hx | rfl
    · exact h x hx
    · exact ⟨Int.emod_nonneg _ (by omega), Int.emod_lt_of_pos _ hp⟩
theorem crossR_ok {p : Int} (hp : 2 ≤ p) (n : Nat) (room : List (List Int)) (j : Nat) : (crossR p n room j).length = n ∧ ∀ x ∈ crossR p n room j, 0 ≤ x ∧ x < p := by
  refine ⟨?_, crossF_ok (by omega) j room _ fun x hx => ?_⟩
  · unfold crossR
    rw [crossF_len, List.length_set, List.length_replicate]
  · rcases List.mem_or_eq_of_mem_set hx with hx | rfl
    · rw [List.eq_of_mem_replicate hx]
      omega
    · omega
section
variable {q : Nat} [NeZero q]
theorem getD_set {r : List Int} {k : Nat} {v : Int} (hk : k < r.length) (i : Nat) : (r.set k v).getD i 0 = if i = k then v else r.getD i 0 := by
  by_cases h : i = k
  · subst h
    rw [if_pos rfl, gd_lt (by rw [List.length_set]; exact hk), List.getElem_set_self]
  · rw [if_neg h]
    by_cases hi : i < r.length
    · rw [gd_lt (by rw [List.length_set]; exact hi), List.getElem_set_ne (fun z => h z.symm), gd_lt hi]
    · rw [gd_ge (by rw [List.length_set]; omega), gd_ge (by omega)]
theorem cF_neg (x : Int) : cF (q := q) (-x) = -cF x := by
  have h := cF_sub (q := q) 0 x
  rw [Int.zero_sub, cF_zero] at h
  rw [h]
  grind
theorem crossF_sim {n : Nat} (j : Nat) : ∀ (room : List (List Int)) (bs : List (Nat × Vec q)) (r0 : List Int), RowsOk q n room → r0.length = n → bs.map (·.2) = room.map (toV (q := q)) → (∀ b ∈ bs, Lead b.2 b.1 ∧ b.1 < n) → bs.Pairwise (fun a b => a.1 < b.1) → (∀ b ∈ bs, r0.getD b.1 0 = 0) →
    toV (q := q) (crossF q room j r0) = fun i => toV r0 i + (crossV bs j i - unitV j i)
  | [], [], r0, _, _, _, _, _, _ => by
    funext i
    show toV r0 i = toV r0 i + (unitV j i - unitV j i)
    grind
  | [], _ :: _, _, _, _, e, _, _, _ => by cases e
  | _ :: _, [], _, _, _, e, _, _, _ => by cases e
  | c :: room, b :: bs, r0, h1, h2, e, hl, hi, hz => by
    rw [List.map_cons, List.map_cons] at e
    obtain ⟨e1, e2⟩ := List.cons.inj e
    obtain ⟨i1, i2⟩ := List.pairwise_cons.mp hi
    have hc := h1 c List.mem_cons_self
    have hb := hl b List.mem_cons_self
    have fj : fpR c = b.1 := fpR_lead (q := q) hc.2 (by rw [← e1]; exact hb.1)
    have hlt : fpR c < r0.length := by rw [fj, h2]; exact hb.2
    have ih := crossF_sim j room bs (r0.set (fpR c) ((-(c.getD j 0)) % q)) (fun x hx => h1 x (List.mem_cons_of_mem _ hx)) (by rw [List.length_set]; exact h2) e2 (fun x hx => hl x (List.mem_cons_of_mem _ hx)) i2 fun x hx => by
      rw [getD_set hlt, if_neg (by rw [fj]; have := i1 x hx; omega)]
      exact hz x (List.mem_cons_of_mem _ hx)
    show toV (q := q) (crossF q room j (r0.set (fpR c) ((-(c.getD j 0)) % q))) = _
    rw [ih]
    funext i
    show cF ((r0.set (fpR c) ((-(c.getD j 0)) % q)).getD i 0) + (crossV bs j i - unitV j i) = toV r0 i + ((-(b.2 j)) * unitV b.1 i + crossV bs j i - unitV j i)
    have ej : b.2 j = cF (c.getD j 0) := congrFun e1 j
    have hz0 := hz b List.mem_cons_self
    rw [getD_set hlt, fj, ej]
    unfold unitV
    by_cases hib : i = b.1
    · subst hib
      rw [if_pos rfl, if_pos rfl, cF_mod, cF_neg]
      show -cF (c.getD j 0) + _ = cF (r0.getD b.1 0) + _
      rw [hz0, cF_zero]
      grind
    · rw [if_neg hib, if_neg hib]
      show cF (r0.getD i 0) + _ = cF (r0.getD i 0) + _
      grind
theorem firsts_eq {n : Nat} : ∀ (room : List (List Int)) (bs : List (Nat × Vec q)), RowsOk q n room → bs.map (·.2) = room.map (toV (q := q)) → (∀ b ∈ bs, Lead b.2 b.1) → room.map fpR = bs.map (·.1)
  | [], [], _, _, _ => rfl
  | [], _ :: _, _, e, _ => by cases e
  | _ :: _, [], _, e, _ => by cases e
  | c :: room, b :: bs, h1, e, hl => by
    rw [List.map_cons, List.map_cons] at e
    obtain ⟨e1, e2⟩ := List.cons.inj e
    rw [List.map_cons, List.map_cons, firsts_eq room bs (fun x hx => h1 x (List.mem_cons_of_mem _ hx)) e2 fun x hx => hl x (List.mem_cons_of_mem _ hx), fpR_lead (q := q) (h1 c List.mem_cons_self).2 (by rw [← e1]; exact hl b List.mem_cons_self)]
/-- the rows by the free places, as vectors -/
theorem IsPF.cross (hF : Fld (q : Int)) {n : Nat} {room : List (List Int)} (h : IsPF q n room) : ∃ bs : List (Nat × Vec q), PF n bs ∧ bs.map (·.2) = room.map (toV (q := q)) ∧ ((freesR n room).map (crossR q n room)).map (toV (q := q)) = (frees n bs).map (crossV bs) := by
  obtain ⟨ok, bs, pf, e⟩ := h
  have ld : ∀ b ∈ bs, Lead b.2 b.1 := fun b hb => pf.leads (one_ne (q2 hF)) hb
  have ef := firsts_eq room bs ok e ld
  refine ⟨bs, pf, e, ?_⟩
  have e1 : freesR n room = frees n bs := by
    unfold freesR frees isFirst
    rw [ef]
  rw [e1, List.map_map]
  apply List.map_congr_left
  intro j hj
  obtain ⟨jn, jf⟩ := mem_frees.mp hj
  have hz : ∀ b ∈ bs, ((List.replicate n (0 : Int)).set j 1).getD b.1 0 = 0 := fun b hb => by
    rw [getD_set (by rw [List.length_replicate]; exact jn), if_neg (jf b hb), gd_lt (by rw [List.length_replicate]; exact pf.lt b hb), List.getElem_replicate]
  show toV (q := q) (crossF q room j ((List.replicate n 0).set j 1)) = crossV bs j
  rw [crossF_sim (n := n) j room bs _ ok (by rw [List.length_set, List.length_replicate]) e (fun b hb => ⟨ld b hb, pf.lt b hb⟩) pf.inc hz]
  funext i
  have eu : toV (q := q) ((List.replicate n (0 : Int)).set j 1) i = unitV j i := by
    show cF (((List.replicate n (0 : Int)).set j 1).getD i 0) = _
    rw [getD_set (by rw [List.length_replicate]; exact jn)]
    unfold unitV
    by_cases hij : i = j
    · rw [if_pos hij, if_pos hij, cF_one (q2 hF)]
    · rw [if_neg hij, if_neg hij]
      by_cases hi : i < n
      · rw [gd_lt (by rw [List.length_replicate]; exact hi), List.getElem_replicate, cF_zero]
      · rw [gd_ge (by rw [List.length_replicate]; omega), cF_zero]
  rw [eu]
  grind
theorem free_rows {p : Int} (hp : 2 ≤ p) (n : Nat) (room : List (List Int)) : RowsOk p n ((freesR n room).map (crossR p n room)) := fun r hr => by
  obtain ⟨j, _, rfl⟩ := List.mem_map.mp hr
  exact crossR_ok hp n room j
theorem acrossR_perp (hF : Fld (q : Int)) {n : Nat} {room : List (List Int)} (h : IsPF q n room) (w : Vec q) : Mk q (acrossR q n room) w ↔ Perp n (Mk q room) w := by
  obtain ⟨bs, pf, e, ec⟩ := h.cross hF
  unfold acrossR
  rw [plainR_mk hF (free_rows hF.1 n room)]
  unfold Mk
  rw [ec, ← e]
  exact pf.perp_spn w
theorem good (hF : Fld (q : Int)) (n : Nat) : Good (invF (q := q)) n := ⟨one_ne (q2 hF), invF_ok hF⟩
theorem acrossR_pf (hF : Fld (q : Int)) (n : Nat) (room : List (List Int)) : IsPF q n (acrossR q n room) := plainR_pf hF (free_rows hF.1 n room)
/-- a row is of the room just where it is worth 0 at all worlds across -/
theorem perp_across (hF : Fld (q : Int)) {n : Nat} {room : List (List Int)} (h : IsPF q n room) (x : Vec q) : Perp n (Mk q (acrossR q n room)) x ↔ Mk q room x := by
  obtain ⟨_, bs, pb, eb⟩ := id h
  obtain ⟨_, cs, pc, ec⟩ := acrossR_pf hF n room
  have := (good hF n).perp_perp pb pc (fun w => by
    have := acrossR_perp hF h w
    unfold Mk at this
    rwa [← eb, ← ec] at this) x
  unfold Mk
  rwa [← eb, ← ec]
/-! ### worth -/
end
end OC
set_option Elab.async false
set_option linter.all false
set_option maxRecDepth 100000
set_option maxHeartbeats 2000000
/-! repr of any thing, lists with dicts too: the modules' own dict is none of them -/
namespace OC
open PySem PySem.Spec PyProof.Rows L2
def HasSys (base : Heap) : Prop := ∃ o, base.get? sysModules = some o
section
variable {X : Cx} {pins : List (Addr × Obj)} {σ : L2.St} {H : Hp} {s : Shared} {bad : Addr → Prop}
theorem sys_none (hs : HasSys X.base) (I : Inv X pins σ H s) : H sysModules = none := by
  obtain ⟨o, e⟩ := hs
  exact (I.bs _ _ e).2
mutual
theorem rep_readsS (hs : HasSys X.base) (I : Inv X pins σ H s) : ∀ (d : PyData) (v : V) (u : Value), Rep X.K H bad v d → RelV v u → ∃ as, Reads s.heap u d as ∧ sysModules ∉ as
  | .none, _, _, h, r => by cases h; cases r; exact ⟨_, .none, nofun⟩
  | .bool b, _, _, h, r => by cases h; cases r; exact ⟨_, .bool b, nofun⟩
  | .int i, _, _, h, r => by cases h; obtain ⟨t, rfl⟩ := r; exact ⟨_, .int i t, nofun⟩
  | .str x, _, _, h, r => by cases h; obtain ⟨t, rfl⟩ := r; exact ⟨_, .str x t, nofun⟩
  | .list ds, _, _, h, r => by
    cases h with
    | @lst a xs _ hq hb ha =>
      cases r
      have ne : sysModules ≠ a := fun z => by
        have := sys_none hs I
        rw [z, hq] at this
        cases this
      obtain ⟨its, rv, ⟨o, n, ho, hc, _, hd⟩, _⟩ := I.list (.inl (.inl hq))
      obtain ⟨as, q, f⟩ := repAll_readsS hs I ds _ its ha rv
      refine ⟨_, .list ho hc hd q, fun m => ?_⟩
      first
        | exact f m
        | (rcases List.mem_cons.mp m with z | m; exact ne z; exact f m)
  | .tuple ds, _, _, h, r => by
    cases h with
    | tup hq ha =>
      cases r
      obtain ⟨its, rv, ⟨o, ho, hc, n, hd⟩, _⟩ := I.tuple hq
      obtain ⟨as, q, f⟩ := repAll_readsS hs I ds _ its ha rv
      exact ⟨_, .tuple ho hc hd q, f⟩
  | .dict kvs, v, u, h, r => by
    cases h with
    | @dct a ks hq hf =>
      cases r
      obtain ⟨_, hsys, vs, kv, o, es, ep, ho, hx, hd, _, hp, _⟩ := I.hok a _ hq
      obtain ⟨r1, r2⟩ := reads_pairs (h := s.heap) hp kv hf
      refine ⟨a :: [] ++ [], .dict ho hx.1 hd (by rw [List.map_map]; exact r1) (by rw [List.map_map]; exact r2), fun m => ?_⟩
      have e : sysModules = a := by simpa using m
      rw [← e] at hsys
      simp at hsys
theorem repAll_readsS (hs : HasSys X.base) (I : Inv X pins σ H s) : ∀ (ds : List PyData) (vs : List V) (us : List Value), RepAll X.K H bad vs ds → Vals vs us → ∃ as, ReadsAll s.heap us ds as ∧ sysModules ∉ as
  | [], _, _, h, r => by cases h; cases r; exact ⟨_, .nil, nofun⟩
  | d :: ds, _, _, h, r => by
    cases h with
    | cons h1 h2 =>
      cases r with
      | cons r1 r2 =>
        obtain ⟨as, q1, f1⟩ := rep_readsS hs I d _ _ h1 r1
        obtain ⟨bs, q2, f2⟩ := repAll_readsS hs I ds _ _ h2 r2
        refine ⟨_, .cons q1 q2, fun m => ?_⟩
        rcases List.mem_append.mp m with m | m
        · exact f1 m
        · exact f2 m
end
end
/-- what repr asks of a thing, wherever dicts and lists stand in it -/
structure FitS (d : PyData) : Prop where
  len : d.shown.length ≤ 10000000
  sh : d.showable = true
  dp : d.depth ≤ 55
def rReprS (K : PySem.W.Frag) (bad : Addr → Prop) : List V → Hp → VK → Prop := fun xs H Q => ∃ v d, xs = [v] ∧ Rep K H bad v d ∧ FitS d ∧ Q (.str d.shown) H
theorem call_reprS {X : Cx} {k : Nat} (bad : Addr → Prop) (hs : HasSys X.base) (hr : Room k X.A) (hgd : X.A.guards = some []) : CallR X (.builtin "repr") (rReprS X.K bad) := by
  intro pins s σ H xs us Q I r h
  obtain ⟨v, d, rfl, hv, ⟨fl, fs, fd⟩, q⟩ := h
  cases r with
  | cons r1 r2 =>
    cases r2
    have hz : d.shown.length ≤ sizeLine := Nat.le_trans fl (by decide)
    have hu := hr.units
    obtain ⟨as, rd, hsm⟩ := rep_readsS hs I d v _ hv r1
    cases hv with
    | non => cases r1; exact P.repr_of_none ⟨.str _, H, I.tok _, ⟨_, rfl⟩, q⟩
    | bl b => cases r1; exact P.repr_of_bool ⟨.str _, H, I.tok _, ⟨_, rfl⟩, q⟩
    | int i =>
      obtain ⟨t, rfl⟩ := r1
      exact P.repr_of_int (by simpa [PyData.showable] using fs) ⟨.str _, H, I.tok _, ⟨_, rfl⟩, q⟩
    | str x =>
      obtain ⟨t, rfl⟩ := r1
      exact P.repr_of_str ⟨.str _, H, I.tok _, ⟨_, rfl⟩, q⟩ hz
    | lst _ _ _ => cases r1; exact repr_of_reads' rd fs (fun _ => hsm) hgd (by omega) (fun _ _ e => e) (fun h' u tk hk => ⟨.str _, H, I.kept hk, ⟨_, rfl⟩, q⟩) hz
    | tup _ _ => cases r1; exact repr_of_reads' rd fs (fun _ => hsm) hgd (by omega) (fun _ _ e => e) (fun h' u tk hk => ⟨.str _, H, I.kept hk, ⟨_, rfl⟩, q⟩) hz
    | dct _ _ => cases r1; exact repr_of_reads' rd fs (fun _ => hsm) hgd (by omega) (fun _ _ e => e) (fun h' u tk hk => ⟨.str _, H, I.kept hk, ⟨_, rfl⟩, q⟩) hz
/-! ### the end, with that -/
section
variable {P : Program} {w : World} {K : PySem.W.Frag} {mg mb : Str → Option Value} {CX : CXT} {k : Nat} {fa a : Addr} {fd : FuncData} {x : Str} {sp : Sp} {s₁ : Shared} {vs : List Value} {ns : List Int}
theorem law_callS (KX : K.In s₁.heap) (hns : s₁.heap.Ns mainGlobals mg) (hb : s₁.heap.Ns builtinsNs mb) (hbb : ∀ x : Str, x ≠ "__name__" → mb x = bootBuiltins x) (hsy : ∃ mm, s₁.heap.Ns sysModules mm)
    (hlim : s₁.heap.NoLimit) (hg : s₁.gens = #[]) (ha : s₁.heap.get? a = some { cls := .type "list", data := .seq vs.toArray }) (hi : IntsAre vs ns) (hl : ns.length ≤ sizeLine) (hr : Room k callerA)
    (F : ∀ base : Heap, K.In base → base.Ns mainGlobals mg → HasSys base → FnG P w K mg base CX k fa fd [x] sp)
    (hbind : ∀ (s : Shared) (u : Value), BindsTo s fd ⟨[u], []⟩ [(x, u)])
    (hsp : ∀ H : Hp, Only H → SqL K H a (ns.map V.int) → sp [.ref a] H (fun v _ => v = .bl true) fun _ _ _ => False) (hCX : ∀ H e s', CX [] H s₁ (fun _ _ _ => False) e s' → False) :
    codeAny (model P w) callerA (.call (.ref fa) ⟨[.ref a], []⟩) (fun r s' => r = .ok (.ret (.bool true)) ∧ OldK s₁.heap s'.heap ∧ s'.os = s₁.os ∧ AllBare s'.gens) s₁ := by
  obtain ⟨mm, hmm⟩ := hsy
  -- a promise that asks for the modules' dict is one of those that ask for it anyway
  have core : ∀ H : Hp, Only H → sp [.ref a] H (fun v _ => v = .bl true) (fun _ _ _ => False) → HOk P w H s₁.heap → (∀ b, H b ≠ none → b = a) → (H a ≠ none → K.lookup a = none) →
      codeAny (model P w) callerA (.call (.ref fa) ⟨[.ref a], []⟩) (fun r s' => r = .ok (.ret (.bool true)) ∧ OldK s₁.heap s'.heap ∧ s'.os = s₁.os ∧ AllBare s'.gens) s₁ := by
    intro H hO hsp hok hA hK
    have off : ∀ {b : Addr} {o : Obj} {es : Array DictEntry} {ep : Nat}, s₁.heap.get? b = some o → o.data = .dict es ep → H b = none := by
      intro b o es ep e d
      apply Classical.byContradiction
      intro nb
      have eb := hA b nb
      subst eb
      rw [ha] at e
      have eo := Option.some.inj e
      subst eo
      cases (show Data.seq vs.toArray _ = Data.dict es ep from d)
    have nsB : ∀ {b : Addr} {m : Str → Option Value}, s₁.heap.Ns b m → (hidT s₁.heap H).Ns b m := by
      rintro b m ⟨o, es, ep, e, d, r⟩
      exact ⟨o, es, ep, hidT_get e (off e d), d, r⟩
    have inB : K.In (hidT s₁.heap H) := by
      intro b o e
      refine hidT_get (KX b o e) ?_
      apply Classical.byContradiction
      intro nb
      have eb := hA b nb
      subst eb
      rw [hK nb] at e
      cases e
    obtain ⟨mc, l1, l2⟩ := hlim
    have M : Mod K mg (hidT s₁.heap H) := ⟨inB, nsB hns, ⟨mb, nsB hb, hbb⟩, ⟨mc, nsB l1, l2⟩⟩
    have hs : HasSys (hidT s₁.heap H) := by
      obtain ⟨o, es, ep, e, _⟩ := nsB hmm
      exact ⟨o, e⟩
    have e0 : Env0 P w K mg (hidT s₁.heap H) callerA [] s₁ H :=
      ⟨rfl, M, fun b o e => of_hidT e, Nat.le_of_eq (hidT_size _ _), trivial, fun b hb => (nomatch (show b ∈ ([] : List Addr) from hb)), hok, .of_eq hg⟩
    have run := (F _ inB (nsB hns) hs).go callerA [] s₁ H ⟨[.ref a], []⟩ [.ref a] [.ref a] _ _ hr rfl e0 (hbind s₁ (.ref a)) (.cons rfl .nil) hsp
    apply codeAny_mono run
    intro r s' h
    rcases r with e | fl
    · exact (hCX H e s' h).elim
    · rcases fl with _ | _ | _ | u
      all_goals first
        | exact (show False from h).elim
        | skip
      obtain ⟨v, H', os, bare, un, hok', r', q⟩ := h
      cases (show v = .bl true from q)
      cases (show u = Value.bool true from r')
      refine ⟨rfl, OldK.of_keep ?_, os, bare⟩
      intro b o e
      rcases hO b with z | ⟨ob, xs, z⟩
      · exact un.keep b o e z (fun y => (nomatch (show b ∈ ([] : List Addr) from y))) (fun y => (nomatch y))
      · have e1 := (hok b _ z).1
        have e2 := (hok' b _ (un.frzs b ob _ z)).1
        rw [e] at e1
        rw [Option.some.inj e1]
        exact e2
  have rv := vals_ints hi
  have lv := hi.length
  cases hk : K.lookup a with
  | some o =>
    have e := KX a o hk
    rw [ha] at e
    have eo := (Option.some.inj e).symm
    subst eo
    have only : Only (fun _ => none) := fun _ => .inl rfl
    have sq : SqL K (fun _ => none) a (ns.map V.int) := .inr ⟨_, vs.toArray, _, hk, rfl, rfl, rfl, by rw [List.size_toArray, lv]; exact hl, by simpa using rv⟩
    exact core (fun _ => none) only (hsp _ only sq) (fun b u z => (nomatch (show (none : Option HO) = some u from z))) (fun b z => (z rfl).elim) (fun z => (z rfl).elim)
  | none =>
    let H0 : Hp := upd (fun _ => none) a (.frz { cls := .type "list", data := .seq vs.toArray } (.lst (ns.map V.int)))
    have at_a : H0 a = some (.frz { cls := .type "list", data := .seq vs.toArray } (.lst (ns.map V.int))) := upd_same
    have off : ∀ b, b ≠ a → H0 b = none := fun b n => upd_ne n
    have only : Only H0 := by
      intro b
      by_cases hb : b = a
      · subst hb
        exact .inr ⟨_, _, at_a⟩
      · exact .inl (off b hb)
    refine core H0 only (hsp _ only (.inl (.inr ⟨_, at_a⟩))) ?_ ?_ (fun _ => hk)
    · intro b u z
      by_cases hb : b = a
      · subst hb
        rw [at_a] at z
        have ez := (Option.some.inj z).symm
        subst ez
        exact ⟨ha, by rw [List.length_map]; exact hl, vs, _, rv, ha⟩
      · rw [off b hb] at z
        cases z
    · intro b z
      apply Classical.byContradiction
      intro hb
      exact z (off b hb)
end
theorem walk_ofS {l : PySem.W.OpenLaw} {n k : Nat} {q : Program} {loose : List Str} {XP : (Str → Option Value) → Heap → Prop} {YP : World → Heap → Prop} {d : DefRec} {K : Params → PySem.W.Frag} {CX : World → CXT} {sp : World → Sp} {x : Str}
    (hn : l.most = some n) (hn2 : n ≤ sizeLine) (hdf : d.params.defaults = []) (hr : Room k callerA) (him : importsNone q = true) (hY : ∀ (w : World) (h : Heap), YP w h → (K w.params).In h) (F : ∀ (w : World) (mg : Str → Option Value) (fa : Addr) (h : Heap), (K w.params).In h → h.Ns mainGlobals mg → mg d.name = some (.ref fa) → ∃ fd : FuncData, (∀ (s : Shared) (u : Value), BindsTo s fd ⟨[u], []⟩ [(x, u)]) ∧ ∀ base : Heap, (K w.params).In base → base.Ns mainGlobals mg → HasSys base → FnG l.prog w (K w.params) mg base (CX w) k fa fd [x] (sp w)) (hsp : ∀ (w : World) (H : Hp) (a : Addr) (ns : List Int), ns.length ≤ n → Only H → SqL (K w.params) H a (ns.map V.int) → sp w [.ref a] H (fun v _ => v = .bl true) fun _ _ _ => False) (hCX : ∀ (w : World) (H : Hp) (s : Shared) (e : Value) (s' : Shared), CX w [] H s (fun _ _ _ => False) e s' → False) : PySem.W.WalkO q loose XP YP l.row.toRowW d [] (fun f vs => PySem.call f vs) := by
  apply Att.attach_call hn hdf
  intro w s₀ s₁ mg mb fa o pm cd doc a vs ns G Y ho hd hcd hmg hobj hints hlen hg
  obtain ⟨fd, hb, hF⟩ := F w mg fa _ (hY w _ Y) G.T.g hmg
  have sy : ∃ mm, s₁.heap.Ns sysModules mm := by
    obtain ⟨mm, h1, _⟩ := (G.T.seer him).mods
    exact ⟨mm, h1⟩
  exact law_callS (hY w _ Y) G.T.g G.T.b G.T.builtins sy G.T.nolimit hg hobj hints (Nat.le_trans hlen hn2) hr hF hb (fun H hO hS => hsp w H a ns hlen hO hS) fun H e s' => hCX w H s₁ e s'
end OC
set_option Elab.async false
set_option linter.all false
set_option maxRecDepth 100000
/-! how rows are made: marked rows, taken off -/
namespace Lin
section
variable {p : Nat} [NeZero p]
theorem lin_snoc : ∀ (fs : List (Fin p)) (vs : List (Vec p)) (c : Fin p) (v : Vec p), fs.length = vs.length → lin (fs ++ [c]) (vs ++ [v]) = addV (lin fs vs) (mulV c v)
  | [], [], c, v, _ => by
    show addV (mulV c v) zeroV = addV zeroV (mulV c v)
    funext i
    show c * v i + 0 = 0 + c * v i
    grind
  | [], _ :: _, _, _, e => by cases e
  | _ :: _, [], _, _, e => by cases e
  | f :: fs, u :: us, c, v, e => by
    show addV (mulV f u) (lin (fs ++ [c]) (us ++ [v])) = addV (addV (mulV f u) (lin fs us)) (mulV c v)
    rw [lin_snoc fs us c v (Nat.succ.inj e)]
    funext i
    show f * u i + (lin fs us i + c * v i) = f * u i + lin fs us i + c * v i
    grind
/-- no row is made by those ahead of it -/
def Free (vs : List (Vec p)) : Prop := ∀ k v, vs[k]? = some v → ¬ Spn (vs.take k) v
theorem Free.init {vs : List (Vec p)} {v : Vec p} (h : Free (vs ++ [v])) : Free vs ∧ ¬ Spn vs v := by
  constructor
  · intro k u hu
    have hk : k < vs.length := (List.getElem?_eq_some_iff.mp hu).1
    have := h k u (by rw [List.getElem?_append_left hk]; exact hu)
    rwa [List.take_append_of_le_length (by omega)] at this
  · have := h vs.length v (by rw [List.getElem?_append_right (Nat.le_refl _), Nat.sub_self]; rfl)
    rwa [List.take_append_of_le_length (Nat.le_refl _), List.take_length] at this
theorem Free.zero (inv : Fin p → Fin p) (hinv : ∀ a : Fin p, a ≠ 0 → inv a * a = 1) : ∀ (m : Nat) (vs : List (Vec p)) (fs : List (Fin p)), vs.length = m → Free vs → fs.length = vs.length → lin fs vs = zeroV → ∀ f ∈ fs, f = 0
  | 0, vs, fs, hm, _, hl, _ => by
    intro f hf
    rw [hm] at hl
    rw [List.length_eq_zero_iff.mp hl] at hf
    cases hf
  | m + 1, vs, fs, hm, hF, hl, hz => by
    obtain ⟨vs', v, rfl⟩ : ∃ vs' v, vs = vs' ++ [v] := by
      rcases List.eq_nil_or_concat vs with h | ⟨a, b, h⟩
      · rw [h] at hm; cases hm
      · exact ⟨a, b, by rw [h]; exact List.concat_eq_append⟩
    obtain ⟨fs', c, rfl⟩ : ∃ fs' c, fs = fs' ++ [c] := by
      rcases List.eq_nil_or_concat fs with h | ⟨a, b, h⟩
      · rw [h, hm] at hl; cases hl
      · exact ⟨a, b, by rw [h]; exact List.concat_eq_append⟩
    rw [List.length_append, List.length_append] at hl
    have hl' : fs'.length = vs'.length := by simpa using hl
    obtain ⟨h1, h2⟩ := hF.init
    rw [lin_snoc fs' vs' c v hl'] at hz
    have c0 : c = 0 := by
      apply Classical.byContradiction
      intro hc
      apply h2
      have hS := spn_sub vs'
      have h3 : Spn vs' (lin fs' vs') := ⟨fs', rfl⟩
      have h4 := hS.mul (-(inv c)) h3
      have e : v = mulV (-(inv c)) (lin fs' vs') := by
        funext i
        have e1 := congrFun hz i
        have e1 : lin fs' vs' i + c * v i = 0 := e1
        have e2 := hinv c hc
        show v i = -(inv c) * lin fs' vs' i
        have e3 : lin fs' vs' i = -(c * v i) := by grind
        rw [e3]
        have : inv c * c * v i = v i := by rw [e2]; grind
        grind
      rw [e]
      exact h4
    have hz' : lin fs' vs' = zeroV := by
      funext i
      have e1 := congrFun hz i
      have e1 : lin fs' vs' i + c * v i = 0 := e1
      rw [c0] at e1
      show lin fs' vs' i = 0
      grind
    intro f hf
    rcases List.mem_append.mp hf with hf | hf
    · exact Free.zero inv hinv m vs' fs' (by rw [List.length_append] at hm; simpa using hm) h1 hl' hz' f hf
    · have : f = c := by simpa using hf
      rw [this]
      exact c0
end
end Lin
namespace OC
open PySem PySem.Spec PyProof.Rows L2 Lin
section
variable {q : Nat} [NeZero q]
theorem toV_plus {x y : List Int} (h : x.length = y.length) (m : Int) : toV (q := q) (plusR q x y m) = addV (toV x) (mulV (cF m) (toV y)) := by
  funext i
  show cF ((plusR q x y m).getD i 0) = cF (x.getD i 0) + cF m * cF (y.getD i 0)
  unfold plusR
  by_cases hi : i < x.length
  · rw [getD_zipWith _ h hi, cF_mod, cF_add, cF_mul]
  · rw [gd_ge (by rw [List.length_zipWith]; omega), gd_ge (r := x) (by omega), gd_ge (r := y) (by omega), cF_zero]
    grind
end
end OC
set_option Elab.async false
set_option linter.all false
set_option maxRecDepth 100000
set_option maxHeartbeats 2000000
set_option Elab.async false
set_option linter.all false
set_option maxRecDepth 100000
set_option maxHeartbeats 4000000
/-! the text of a tuple of rows tells the rows -/
namespace OC
open PySem PySem.Spec PyProof.Rows L2
def enc (d : PyData) : List Nat := d.shown.cps.toList
end OC
set_option Elab.async false
set_option linter.all false
set_option maxRecDepth 100000
set_option maxHeartbeats 4000000
/-! what rows make, by p -/
namespace OC
open PySem PySem.Spec PyProof.Rows L2 Lin
/-- the rows make the row -/
def InR (p : Int) (rs : List (List Int)) (r : List Int) : Prop := ∀ (q : Nat) (_ : NeZero q), p = (q : Int) → Mk q rs (toV (q := q) r)
theorem InR.mem {p : Int} {rs : List (List Int)} {r : List Int} (h : r ∈ rs) : InR p rs r := fun q _ _ => spn_mem (List.mem_map_of_mem h)
theorem InR.mono {p : Int} {rs ts : List (List Int)} {r : List Int} (h : ∀ x ∈ rs, InR p ts x) (hr : InR p rs r) : InR p ts r := fun q z e =>
  spn_sub_of (fun v hv => by
    obtain ⟨x, mx, rfl⟩ := List.mem_map.mp hv
    exact h x mx q z e) (hr q z e)
theorem toV_noughts {q : Nat} [NeZero q] (n : Nat) : toV (q := q) (List.replicate n 0) = zeroV := by
  funext i
  unfold toV zeroV
  rw [show (List.replicate n (0 : Int)).getD i 0 = 0 by
    rw [List.getD_eq_getElem?_getD]
    by_cases h : i < n
    · simp [h]
    · simp [h]]
  exact cF_zero
theorem InR.noughts (p : Int) (rs : List (List Int)) (n : Nat) : InR p rs (List.replicate n 0) := fun q z e => by
  rw [toV_noughts]
  exact (spn_sub _).zero
theorem InR.plus {p : Int} {rs : List (List Int)} {x y : List Int} (m : Int) (hl : x.length = y.length) (hx : InR p rs x) (hy : InR p rs y) : InR p rs (plusR p x y m) := fun q z e => by
  subst e
  rw [toV_plus hl]
  exact (spn_sub _).add (hx q z rfl) ((spn_sub _).mul _ (hy q z rfl))
theorem hasR_in {p : Int} (hF : Fld p) {n : Nat} {rs : List (List Int)} {r : List Int} (h : RowsOk p n rs) (hr : RowsOk p n [r]) : hasR p n rs r = true ↔ InR p rs r := by
  obtain ⟨q, rfl, z, hq⟩ := to_q hF
  unfold hasR
  rw [decide_eq_true_iff, plainR_has hF h hr]
  constructor
  · intro hm q' z' e
    have : q = q' := by omega
    subst this
    exact hm
  · intro hm
    exact hm q z rfl
theorem plain_same {p : Int} (hF : Fld p) {n : Nat} {one other : List (List Int)} (h1 : RowsOk p n one) (h2 : RowsOk p n other) (a : ∀ r ∈ one, InR p other r) (b : ∀ r ∈ other, InR p one r) : plainR p n one = plainR p n other := by
  obtain ⟨q, rfl, z, hq⟩ := to_q hF
  refine plainR_congr hF h1 h2 fun x => ⟨fun hx => ?_, fun hx => ?_⟩
  · exact spn_sub_of (fun v hv => by
      obtain ⟨y, my, rfl⟩ := List.mem_map.mp hv
      exact a y my q z rfl) hx
  · exact spn_sub_of (fun v hv => by
      obtain ⟨y, my, rfl⟩ := List.mem_map.mp hv
      exact b y my q z rfl) hx
theorem plain_one_more {p : Int} (hF : Fld p) {n : Nat} {rs : List (List Int)} {r : List Int} (h : RowsOk p n rs) (hr : RowsOk p n [r]) : (plainR p n (rs ++ [r])).length = (plainR p n rs).length + (if hasR p n rs r = true then 0 else 1) := by
  by_cases hh : hasR p n rs r = true
  · rw [if_pos hh]
    exact of_decide_eq_true hh
  · rw [if_neg hh]
    obtain ⟨q, rfl, z, hq⟩ := to_q hF
    refine plainR_more hF h hr fun hm => hh ?_
    unfold hasR
    rw [decide_eq_true_iff, plainR_has hF h hr]
    exact hm
/-- a row so many times, and made rows put to it: it is made back -/
theorem InR.back {p : Int} (hF : Fld p) {ts : List (List Int)} {r own : List Int} {m : Int} (m0 : 1 ≤ m) (m1 : m < p) {n : Nat} (hr : r.length = n) (h : InR p ts own) (e : own = plusR p (List.replicate n 0) r m ∨ ∃ x, InR p ts x ∧ x.length = n ∧ own = plusR p (plusR p (List.replicate n 0) r m) x 1) : InR p ts r := fun q z ep => by
  subst ep
  obtain ⟨b, b0, b1, eb⟩ := hF.2 m m0 m1
  have q2 : 2 ≤ q := by have := hF.1; omega
  have hone : cF (q := q) b * cF (q := q) m = 1 := by
    rw [← cF_mul, Int.mul_comm, ← cF_mod, eb, cF_one q2]
  have hS := spn_sub (ts.map (toV (q := q)))
  have key : ∀ y : Vec q, Spn (ts.map (toV (q := q))) y → y = mulV (cF m) (toV r) → Spn (ts.map (toV (q := q))) (toV r) := by
    intro y hy ey
    have := hS.mul (cF (q := q) b) hy
    rw [ey] at this
    have e2 : mulV (cF (q := q) b) (mulV (cF m) (toV r)) = toV r := by
      funext i
      show cF b * (cF m * toV r i) = toV r i
      grind
    rwa [e2] at this
  have lz : (List.replicate n (0 : Int)).length = r.length := by rw [List.length_replicate, hr]
  have e0 : toV (q := q) (plusR q (List.replicate n 0) r m) = mulV (cF m) (toV r) := by
    rw [toV_plus lz, toV_noughts, zero_add]
  rcases e with rfl | ⟨x, hx, lx, rfl⟩
  · exact key _ (h q z rfl) e0
  · have l1 : (plusR (q : Int) (List.replicate n 0) r m).length = x.length := by
      rw [plus_len lz, List.length_replicate, lx]
    have h1 := h q z rfl
    unfold Mk at h1
    rw [toV_plus l1, e0] at h1
    refine key _ (hS.less 1 h1 (hx q z rfl)) ?_
    funext i
    show (cF m * toV r i + cF 1 * toV x i) - 1 * toV x i = cF m * toV r i
    rw [cF_one q2]
    grind
end OC
set_option Elab.async false
set_option linter.all false
set_option maxRecDepth 100000
set_option maxHeartbeats 4000000
/-! a display of one pair whose key is a tuple -/
set_option Elab.async false
set_option linter.all false
set_option maxRecDepth 100000
set_option maxHeartbeats 4000000
/-! dicts whose keys are rows; all rows that rows make -/
namespace OC
open PySem PySem.Spec PyProof.Rows L2 Lin
/-- a method's rule inside a comprehension: K by its name -/
theorem pe_bmK {X : Cx} {K : PySem.W.Frag} {e : Expr} {T : String} {r : V → List V → Hp → VK → Prop} {to : TE} {t : TA} (hK : X.K = K) (h : PE X e (tBM X.K T r to t)) : PE X e (tBM K T r to t) := hK ▸ h
theorem RowsAt.tk2 {K : PySem.W.Frag} {H H' : Hp} {a : Addr} {rs : List (List Int)} (t : Tk H H') (h : RowsAt K H a rs) : RowsAt K H' a rs := by
  obtain ⟨ws, h1, h2⟩ := h
  exact ⟨ws, t K _ _ h1, dpAll_tk t _ _ (noL_rows rs) h2⟩
theorem units1 {k : Nat} {A : Around} (r : Room k A) : A.units + 1 < cLine := by have := r.un; omega
end OC
set_option Elab.async false
set_option linter.all false
set_option maxRecDepth 100000
set_option maxHeartbeats 4000000
/-! lists of rows that stand by themselves; all rows -/
namespace OC
open PySem PySem.Spec PyProof.Rows L2
inductive TAll (H : Hp) : List V → List (List Int) → Prop
  | nil : TAll H [] []
  | cons {b : Addr} {g : List Int} {vs : List V} {gs : List (List Int)} : H b = some (.tup (g.map V.int)) → TAll H vs gs → TAll H (.ref b :: vs) (g :: gs)
theorem TAll.same {H H' : Hp} (s : Same H H') : ∀ {vs : List V} {gs : List (List Int)}, TAll H vs gs → TAll H' vs gs
  | _, _, .nil => .nil
  | _, _, .cons h t => .cons (s _ _ h) (t.same s)
theorem TAll.app {H : Hp} : ∀ {vs us : List V} {gs hs : List (List Int)}, TAll H vs gs → TAll H us hs → TAll H (vs ++ us) (gs ++ hs)
  | _, _, _, _, .nil, h => h
  | _, _, _, _, .cons h t, h2 => .cons h (t.app h2)
theorem TAll.len {H : Hp} : ∀ {vs : List V} {gs : List (List Int)}, TAll H vs gs → vs.length = gs.length
  | _, _, .nil => rfl
  | _, _, .cons _ t => by rw [List.length_cons, List.length_cons, t.len]
theorem TAll.get {H : Hp} : ∀ {vs : List V} {gs : List (List Int)} {i : Nat} {v : V}, TAll H vs gs → vs[i]? = some v → ∃ b g, v = .ref b ∧ gs[i]? = some g ∧ H b = some (.tup (g.map V.int))
  | _, _, _, _, .nil, h => by simp at h
  | _, _, 0, _, .cons (b := b) (g := g) h t, e => by cases e; exact ⟨b, g, rfl, rfl, h⟩
  | _, _, i + 1, v, .cons h t, e => t.get (i := i) (v := v) e
theorem TAll.mut {H : Hp} {D : Addr} {xs : List V} {o : HO} (e : H D = some (.lst xs)) : ∀ {vs : List V} {gs : List (List Int)}, TAll H vs gs → TAll (upd H D o) vs gs
  | _, _, .nil => .nil
  | _, _, .cons h t => .cons (by rw [upd_ne (fun z => by rw [z, e] at h; cases h)]; exact h) (t.mut e)
end OC
set_option Elab.async false
set_option linter.all false
set_option maxRecDepth 100000
set_option maxHeartbeats 4000000
/-! min and max of a tuple of ints -/
set_option Elab.async false
set_option linter.all false
set_option maxRecDepth 100000
set_option maxHeartbeats 4000000
/-! what is left of a row -/
namespace OC
open PySem PySem.Spec PyProof.Rows L2 Lin
theorem left_at {p : Int} (hF : Fld p) {n : Nat} {room : List (List Int)} (h : PFR p n room) {r : List Int} (hr : RowsOk p n [r]) {c : List Int} (hc : c ∈ room) : (leftR p room r).getD (fpR c) 0 = 0 := by
  obtain ⟨q, rfl, z, hF⟩ := to_q hF
  obtain ⟨bs, pf, e, ok, et⟩ := ((isPF_iff hF).mpr h).left hF hr
  refine (toV_eq0 (q := q) (ok _ List.mem_cons_self).2 _).mp ?_
  have m : toV (q := q) c ∈ bs.map (·.2) := by rw [e]; exact List.mem_map_of_mem hc
  obtain ⟨b, mb, eb⟩ := List.mem_map.mp m
  have fj : fpR c = b.1 := fpR_lead (q := q) (h.1 c hc).2 (by rw [← eb]; exact pf.leads (one_ne (q2 hF)) mb)
  rw [et, fj]
  exact Lin.left_at pf _ mb
theorem noughts_iff {r : List Int} {n : Nat} (h : r.length = n) : r = List.replicate n 0 ↔ ∀ x ∈ r, x = 0 := by
  rw [List.eq_replicate_iff]
  exact ⟨fun z => z.2, fun z => ⟨h, z⟩⟩
theorem left_iff {p : Int} (hF : Fld p) {n : Nat} {room : List (List Int)} (h : PFR p n room) {r : List Int} (hr : RowsOk p n [r]) : decide (leftR p room r = List.replicate n 0) = hasR p n room r := by
  have l := (PFR.left_ok hF h hr _ List.mem_cons_self).1
  have e := PFR.left_has hF h hr
  unfold hasR
  rw [decide_eq_decide, noughts_iff l]
  exact e
end OC
namespace OC
theorem InR.plain {p : Int} (hF : Fld p) {n : Nat} {rs : List (List Int)} (h : RowsOk p n rs) {r : List Int} : InR p (plainR p n rs) r ↔ InR p rs r := ⟨fun hx q z e => by
    subst e
    exact (plainR_mk hF h _).mp (hx q z rfl), fun hx q z e => by
    subst e
    exact (plainR_mk hF h _).mpr (hx q z rfl)⟩
theorem hasR_plain {p : Int} (hF : Fld p) {n : Nat} {rs : List (List Int)} (h : RowsOk p n rs) {r : List Int} (hr : RowsOk p n [r]) : hasR p n (plainR p n rs) r = true ↔ InR p rs r := by
  rw [hasR_in hF (PFR.of_plain hF h).1 hr, InR.plain hF h]
end OC
set_option Elab.async false
set_option linter.all false
set_option maxRecDepth 100000
set_option maxHeartbeats 4000000
/-! rows and lists of them: what laws over rooms share -/
namespace OC
open PySem PySem.Spec PyProof.Rows L2
section
variable {K : PySem.W.Frag} {H : Hp} {bad : Addr → Prop}
theorem RowsAt.dp {a : Addr} {rs : List (List Int)} (h : RowsAt K H a rs) : Dp K H (.ref a) (.tuple (rs.map rowD)) := by
  obtain ⟨ws, h1, h2⟩ := h
  exact .tup h1 h2
end
end OC
set_option Elab.async false
set_option linter.all false
set_option maxRecDepth 100000
set_option maxHeartbeats 4000000
/-! rooms joined and shared -/
namespace OC
open PySem PySem.Spec PyProof.Rows L2 Lin
def joinR (p : Int) (n : Nat) (one other : List (List Int)) : List (List Int) := plainR p n (one ++ other)
def meetR (p : Int) (n : Nat) (one other : List (List Int)) : List (List Int) := acrossR p n (joinR p n (acrossR p n one) (acrossR p n other))
section
variable {p : Int} {n : Nat} {one other : List (List Int)}
theorem PFR.ext (hF : Fld p) (h1 : PFR p n one) (h2 : PFR p n other) (a : ∀ r ∈ one, InR p other r) (b : ∀ r ∈ other, InR p one r) : one = other := by
  have := plain_same hF h1.1 h2.1 a b
  rw [h1.2, h2.2] at this
  exact this
theorem meet_mk {q : Nat} [NeZero q] (hF : Fld (q : Int)) (h1 : PFR q n one) (h2 : PFR q n other) (x : Vec q) : Mk q (meetR q n one other) x ↔ Mk q one x ∧ Mk q other x := by
  have i1 := (isPF_iff hF).mpr h1
  have i2 := (isPF_iff hF).mpr h2
  have ja : RowsOk q n (acrossR q n one ++ acrossR q n other) := rowsOk_app (acrossR_pf hF n one).1 (acrossR_pf hF n other).1
  have jp : IsPF q n (joinR q n (acrossR q n one) (acrossR q n other)) := plainR_pf hF ja
  unfold meetR
  rw [acrossR_perp hF jp]
  have e : Mk q (joinR q n (acrossR q n one) (acrossR q n other)) = Mk q (acrossR q n one ++ acrossR q n other) := by
    funext y
    exact propext (plainR_mk hF ja y)
  rw [e, ← perp_across hF i1, ← perp_across hF i2]
  unfold Mk
  rw [List.map_append]
  exact perp_app x
theorem InR.meet (hF : Fld p) (h1 : PFR p n one) (h2 : PFR p n other) (r : List Int) : InR p (meetR p n one other) r ↔ InR p one r ∧ InR p other r := by
  constructor
  · intro h
    exact ⟨fun q z e => by subst e; exact ((meet_mk hF h1 h2 _).mp (h q z rfl)).1, fun q z e => by subst e; exact ((meet_mk hF h1 h2 _).mp (h q z rfl)).2⟩
  · rintro ⟨a, b⟩ q z e
    subst e
    exact (meet_mk hF h1 h2 _).mpr ⟨a q z rfl, b q z rfl⟩
theorem InR.left {ts : List (List Int)} {r : List Int} (h : InR p one r) : InR p (one ++ ts) r := InR.mono (fun x hx => InR.mem (List.mem_append_left _ hx)) h
theorem InR.join (hF : Fld p) (h1 : RowsOk p n one) (h2 : RowsOk p n other) {r : List Int} : InR p (joinR p n one other) r ↔ InR p (one ++ other) r := InR.plain hF (rowsOk_app h1 h2)
theorem pf_dim {q : Nat} [NeZero q] (hF : Fld (q : Int)) {room : List (List Int)} (h : PFR q n room) : dim invF n (room.map (toV (q := q))) = room.length := by
  have := plainR_len h.1
  rw [h.2] at this
  exact this.symm
end
theorem PFR.len {p : Int} {n : Nat} {room : List (List Int)} (hF : Fld p) (h : PFR p n room) : room.length ≤ n := by
  have := plainR_lenle hF h.1
  rwa [h.2] at this
end OC
set_option Elab.async false
set_option linter.all false
set_option maxRecDepth 100000
set_option maxHeartbeats 4000000
/-! across: the more a room has, the less -/
set_option Elab.async false
set_option linter.all false
set_option maxRecDepth 100000
set_option maxHeartbeats 4000000
/-! sorted of a list of rows, and of a dict whose keys are rows -/
namespace OC
open PySem PySem.Spec PyProof.Rows L2 SrtO
theorem TAll.perm {H : Hp} {xs ys : List V} (h : ys.Perm xs) : ∀ {gs : List (List Int)}, TAll H xs gs → ∃ hs, TAll H ys hs ∧ hs.Perm gs := by
  induction h with
  | nil => exact fun t => ⟨_, t, .refl _⟩
  | cons x _ ih =>
    intro gs t
    cases t with
    | cons h1 t1 =>
      obtain ⟨hs, a, b⟩ := ih t1
      exact ⟨_, .cons h1 a, .cons _ b⟩
  | swap x y l =>
    intro gs t
    cases t with
    | cons h1 t1 =>
      cases t1 with
      | cons h2 t2 => exact ⟨_, .cons h2 (.cons h1 t2), .swap _ _ _⟩
  | trans _ _ i1 i2 =>
    intro gs t
    obtain ⟨hs, a, b⟩ := i2 t
    obtain ⟨ks, c, d⟩ := i1 a
    exact ⟨ks, c, d.trans b⟩
theorem TAll.mem {H : Hp} : ∀ {xs : List V} {gs : List (List Int)}, TAll H xs gs → ∀ x ∈ xs, ∃ b g, x = .ref b ∧ g ∈ gs ∧ H b = some (.tup (g.map V.int))
  | _, _, .nil, x, hx => (nomatch hx)
  | _, _, .cons (b := b) (g := g) h t, x, hx => by
    rcases List.mem_cons.mp hx with rfl | hx
    · exact ⟨b, g, rfl, List.mem_cons_self, h⟩
    · obtain ⟨b', g', e, m, h'⟩ := t.mem x hx
      exact ⟨b', g', e, List.mem_cons_of_mem _ m, h'⟩
theorem TAll.rmem {H : Hp} : ∀ {xs : List V} {gs : List (List Int)}, TAll H xs gs → ∀ g ∈ gs, ∃ b, V.ref b ∈ xs ∧ H b = some (.tup (g.map V.int))
  | _, _, .nil, x, hx => (nomatch hx)
  | _, _, .cons (b := b) (g := g) h t, x, hx => by
    rcases List.mem_cons.mp hx with rfl | hx
    · exact ⟨b, List.mem_cons_self, h⟩
    · obtain ⟨b', m, h'⟩ := t.rmem x hx
      exact ⟨b', List.mem_cons_of_mem _ m, h'⟩
theorem TAll.pairs {K : PySem.W.Frag} {H : Hp} {R : List Int → List Int → Prop} : ∀ {xs : List V} {gs : List (List Int)}, TAll H xs gs → xs.Pairwise (fun x y => ∀ n m, TupI K H x n → TupI K H y m → R n m) → gs.Pairwise R
  | _, _, .nil, _ => .nil
  | _, _, .cons (b := b) (g := g) h t, hp => by
    rw [List.pairwise_cons] at hp ⊢
    refine ⟨fun y hy => ?_, t.pairs hp.2⟩
    obtain ⟨b', m, h'⟩ := t.rmem y hy
    exact hp.1 _ m g y ⟨b, rfl, .inl (.inl h)⟩ ⟨b', rfl, .inl (.inl h')⟩
theorem TAll.dp {K : PySem.W.Frag} {H : Hp} : ∀ {vs : List V} {gs : List (List Int)}, TAll H vs gs → DpAll K H vs (gs.map rowD)
  | _, _, .nil => .nil
  | _, _, .cons h t => .cons (row_dp (.inl (.inl h))) t.dp
end OC
set_option Elab.async false
set_option linter.all false
set_option maxRecDepth 100000
set_option maxHeartbeats 4000000
/-! rows of a room by their numbers; worlds alike -/
namespace Lin
end Lin
set_option Elab.async false
set_option linter.all false
set_option maxRecDepth 100000
set_option maxHeartbeats 4000000
/-! rows led by an exchange of places; what rows are worth tells what a row is worth -/
set_option Elab.async false
set_option linter.all false
set_option maxRecDepth 100000
set_option maxHeartbeats 4000000
/-! d.setdefault(k, v), the keys tuples -/
set_option Elab.async false
set_option linter.all false
set_option maxRecDepth 100000
set_option maxHeartbeats 4000000
/-! plain rows in any order: what is left of a row, and one row more -/
namespace Lin
end Lin
set_option Elab.async false
set_option linter.all false
set_option maxRecDepth 100000
set_option maxHeartbeats 4000000
/-! the drawn numbers of the laws over stands: a list of cells, a count, a list of rests -/
namespace OC
open PySem PySem.Spec PyProof.Rows L2
structure Drw (H : Hp) (d c e : Addr) (t : Int) : Prop where
  hd : H d = some (.lst [.ref c, .int t, .ref e])
  hc : ∃ cells rests : List Int, H c = some (.lst (cells.map V.int)) ∧ H e = some (.lst (rests.map V.int)) ∧ cells.length = rests.length ∧ 0 < cells.length ∧ cells.length ≤ 63 ∧ ∀ x ∈ rests, 0 ≤ x
  cd : c ≠ d
  ed : e ≠ d
  ce : c ≠ e
  t0 : 0 ≤ t
section
variable {H H' : Hp} {d c e : Addr} {t : Int}
theorem Drw.same (D : Drw H d c e t) (s : Same H H') : Drw H' d c e t := by
  obtain ⟨hd, ⟨cells, rests, h1, h2, h3⟩, a, b, f, t0⟩ := D
  exact ⟨s _ _ hd, ⟨cells, rests, s _ _ h1, s _ _ h2, h3⟩, a, b, f, t0⟩
/-- one of the three lists -/
def Bd3 (d c e : Addr) : Addr → Prop := fun a => a = d ∨ a = c ∨ a = e
theorem Drw.fresh (D : Drw H d c e t) {p : Addr} (n : H p = none) : ¬ Bd3 d c e p := by
  obtain ⟨hd, ⟨cells, rests, h1, h2, h3⟩, _⟩ := D
  rintro (z | z | z)
  · subst z; rw [hd] at n; cases n
  · subst z; rw [h1] at n; cases n
  · subst z; rw [h2] at n; cases n
theorem Drw.mut (D : Drw H d c e t) {B : Addr} {o : HO} (b : ¬ Bd3 d c e B) : Drw (upd H B o) d c e t := by
  obtain ⟨hd, ⟨cells, rests, h1, h2, h3⟩, x, y, z, t0⟩ := D
  exact ⟨by rw [upd_ne (fun z => b (.inl z.symm))]; exact hd, ⟨cells, rests, by rw [upd_ne (fun z => b (.inr (.inl z.symm)))]; exact h1, by rw [upd_ne (fun z => b (.inr (.inr z.symm)))]; exact h2, h3⟩, x, y, z, t0⟩
theorem Drw.tup {K : PySem.W.Frag} (D : Drw H d c e t) (k : Kept d e H H') {a : Addr} {xs : List V} (h : SqT K H a xs) : SqT K H' a xs := by
  obtain ⟨hd, ⟨cells, rests, h1, h2, h3⟩, _⟩ := D
  rcases h with (h | ⟨o, h⟩) | h
  · exact .inl (.inl (k _ _ h (fun z => by subst z; rw [hd] at h; cases h) (fun z => by subst z; rw [h2] at h; cases h)))
  · exact .inl (.inr ⟨o, k _ _ h (fun z => by subst z; rw [hd] at h; cases h) (fun z => by subst z; rw [h2] at h; cases h)⟩)
  · exact .inr h
theorem Drw.tk (D : Drw H d c e t) (k : Kept d e H H') : Tk H H' := fun _ _ _ h => D.tup k h
theorem Drw.rows {K : PySem.W.Frag} (D : Drw H d c e t) (k : Kept d e H H') {a : Addr} {rs : List (List Int)} (h : RowsAt K H a rs) : RowsAt K H' a rs := by
  obtain ⟨ws, h1, h2⟩ := h
  exact ⟨ws, D.tup k h1, dpAll_tk (D.tk k) _ _ (noL_rows rs) h2⟩
theorem Drw.lst (k : Kept d e H H') {a : Addr} {o : HO} (b : ¬ Bd3 d c e a) (h : H a = some o) : H' a = some o := k _ _ h (fun z => b (.inl z)) (fun z => b (.inr (.inr z)))
end
theorem sql_same {K : PySem.W.Frag} {H H' : Hp} {a : Addr} {xs : List V} (e : Same H H') (h : SqL K H a xs) : SqL K H' a xs := by
  rcases h with (h | ⟨o, h⟩) | h
  · exact .inl (.inl (e _ _ h))
  · exact .inl (.inr ⟨o, e _ _ h⟩)
  · exact .inr h
end OC
set_option Elab.async false
set_option linter.all false
set_option maxRecDepth 100000
set_option maxHeartbeats 4000000
namespace OC
open PySem PySem.Spec PyProof.Rows L2
/-- a name: one to eight small letters -/
def NameOk (s : Str) : Prop := 1 ≤ s.length ∧ s.length ≤ 8 ∧ ∀ c ∈ s.cps.toList, 97 ≤ c ∧ c ≤ 122
def nameL (st : List Nat) (k c : Nat) : List Nat := st.take k ++ ([c] ++ st.drop k)
theorem nameL_inj {st : List Nat} {k c c' : Nat} (h : nameL st k c = nameL st k c') : c = c' := by
  unfold nameL at h
  have := List.append_cancel_left h
  exact (List.cons.inj this).1
theorem nameL_len (st : List Nat) (k c : Nat) : (nameL st k c).length = st.length + 1 := by
  unfold nameL
  rw [List.length_append, List.length_append, List.length_take, List.length_drop]
  simp only [List.length_cons, List.length_nil]
  omega
theorem nameL_ok {st : List Nat} {k c : Nat} (h : ∀ x ∈ st, 97 ≤ x ∧ x ≤ 122) (hl : st.length ≤ 7) (hc : 97 ≤ c ∧ c ≤ 122) : NameOk (SX.S (nameL st k c)) := by
  have e := SX.S_len (nameL st k c)
  rw [nameL_len] at e
  refine ⟨by omega, by omega, fun x hx => ?_⟩
  have hx : x ∈ nameL st k c := hx
  unfold nameL at hx
  rcases List.mem_append.mp hx with hx | hx
  · exact h x (List.mem_of_mem_take hx)
  · rcases List.mem_append.mp hx with hx | hx
    · rw [List.mem_singleton.mp hx]
      exact hc
    · exact h x (List.mem_of_mem_drop hx)
theorem step_inj {f s : Int} {i j : Nat} (hs : s = 1 ∨ s = 3 ∨ s = 5 ∨ s = 7 ∨ s = 9 ∨ s = 11 ∨ s = 15 ∨ s = 17) (hi : i < 26) (hj : j < 26) (h : (f + s * i) % 26 = (f + s * j) % 26) : i = j := by
  rcases hs with rfl | rfl | rfl | rfl | rfl | rfl | rfl | rfl
  all_goals omega
def lettersS : Str := "abcdefghijklmnopqrstuvwxyz"
theorem letters_at {i : Int} (h0 : 0 ≤ i) (h1 : i < 26) : atI lettersS.cps.toList i = some (97 + i.toNat) := by
  have a : ∀ k : Fin 26, atI lettersS.cps.toList (k.val : Int) = some (97 + k.val) := by decide +kernel
  have := a ⟨i.toNat, by omega⟩
  rw [show ((⟨i.toNat, by omega⟩ : Fin 26).val : Int) = i from Int.toNat_of_nonneg h0] at this
  exact this
theorem join_ones : ∀ cs : List Nat, TL.joinL [] (cs.map fun c => [c]) = cs := by
  intro cs
  induction cs with
  | nil => rfl
  | cons c cs ih =>
    cases cs with
    | nil => rfl
    | cons d cs =>
      have : TL.joinL [] ((c :: d :: cs).map fun c => [c]) = [c] ++ ([] ++ TL.joinL [] ((d :: cs).map fun c => [c])) := rfl
      rw [this, ih]
      rfl
theorem ones_sum : ∀ cs : List Nat, ((cs.map fun c => SX.S [c]).map (·.length)).sum = cs.length := by
  intro cs
  induction cs with
  | nil => rfl
  | cons c cs ih =>
    rw [List.map_cons, List.map_cons, List.sum_cons, ih, SX.S_len, List.length_cons]
    simp only [List.length_cons, List.length_nil]
    omega
theorem join_cs (cs : List Nat) : Txt.join (Str.ofString "") (cs.map fun c => SX.S [c]) = SX.S cs := by
  have e := SX.join_S [] (cs.map fun c => [c])
  rw [List.map_map, join_ones] at e
  exact e
def nameAt (st : List Nat) (cut f s : Int) (k : Nat) : Str := SX.S (nameL st cut.toNat (97 + ((f + s * k) % 26).toNat))
theorem names_nodup {st : List Nat} {cut f s : Int} (hs : s = 1 ∨ s = 3 ∨ s = 5 ∨ s = 7 ∨ s = 9 ∨ s = 11 ∨ s = 15 ∨ s = 17) {m : Nat} (hm : m ≤ 26) : ((List.range m).map (nameAt st cut f s)).Nodup := by
  refine List.pairwise_map.mpr ((List.nodup_range (n := m)).imp_of_mem fun {i j} hi hj hne h => hne ?_)
  have hi := List.mem_range.mp hi
  have hj := List.mem_range.mp hj
  have h := nameL_inj (SX.S_inj h)
  refine step_inj (f := f) hs (by omega) (by omega) ?_
  have := Int.emod_nonneg (f + s * i) (b := 26) (by decide)
  have := Int.emod_nonneg (f + s * j) (b := 26) (by decide)
  omega
theorem nameAt_ok {st : List Nat} {cut f s : Int} {k : Nat} (h : ∀ x ∈ st, 97 ≤ x ∧ x ≤ 122) (hl : st.length ≤ 7) : NameOk (nameAt st cut f s k) := by
  refine nameL_ok h hl ?_
  have := Int.emod_nonneg (f + s * k) (b := 26) (by decide)
  have := Int.emod_lt_of_pos (f + s * k) (b := 26) (by decide)
  omega
end OC
set_option Elab.async false
set_option linter.all false
set_option maxRecDepth 100000
set_option maxHeartbeats 4000000
namespace OC
open PySem PySem.Spec PyProof.Rows L2
/-- a statement that is never reached -/
theorem ps_dead {X : Cx} {st : Stmt} : PS X st (fun _ _ _ => False) := ⟨fun _ _ _ _ _ _ h => h.elim⟩
def handD (h : Str × List (List Int)) : PyData := .tuple [.str h.1, .tuple (h.2.map rowD)]
/-- a stand as data -/
def standD (p : Int) (n : Nat) (kn : List (List Int)) (hs : List (Str × List (List Int))) : PyData := .tuple [.int p, .int n, .tuple (kn.map rowD), .tuple (hs.map handD)]
theorem noL_hands : ∀ hs : List (Str × List (List Int)), noLAll (hs.map handD) = true
  | [] => rfl
  | h :: hs => by
    have a : noL (handD h) = true := by
      unfold handD
      simp only [noL, noLAll, noL_rows, Bool.and_true]
    rw [List.map_cons]
    simp only [noLAll, a, noL_hands hs, Bool.and_true]
theorem noL_stand (p : Int) (n : Nat) (kn : List (List Int)) (hs : List (Str × List (List Int))) : noL (standD p n kn hs) = true := by
  unfold standD
  simp only [noL, noLAll, noL_rows, noL_hands, Bool.and_true]
theorem dp_stand {K : PySem.W.Frag} {H : Hp} {v : V} {p : Int} {n : Nat} {kn : List (List Int)} {hs : List (Str × List (List Int))} (h : Dp K H v (standD p n kn hs)) :
    ∃ (a k g : Addr) (wg : List V), v = .ref a ∧ SqT K H a [.int p, .int n, .ref k, .ref g] ∧ RowsAt K H k kn ∧ SqT K H g wg ∧ DpAll K H wg (hs.map handD) := by
  unfold standD at h
  cases h with
  | tup h1 h2 =>
    cases h2 with
    | cons a1 h2 =>
      cases a1
      cases h2 with
      | cons a2 h2 =>
        cases a2
        cases h2 with
        | cons a3 h2 =>
          cases h2 with
          | cons a4 h2 =>
            cases h2
            cases a3 with
            | tup q1 q2 =>
              cases a4 with
              | tup q3 q4 => exact ⟨_, _, _, _, rfl, h1, ⟨_, q1, q2⟩, q3, q4⟩
theorem dp_hand {K : PySem.W.Frag} {H : Hp} {v : V} {h : Str × List (List Int)} (d : Dp K H v (handD h)) : ∃ (b r : Addr), v = .ref b ∧ SqT K H b [.str h.1, .ref r] ∧ RowsAt K H r h.2 := by
  unfold handD at d
  cases d with
  | tup h1 h2 =>
    cases h2 with
    | cons a1 h2 =>
      cases a1
      cases h2 with
      | cons a2 h2 =>
        cases h2
        cases a2 with
        | tup q1 q2 => exact ⟨_, _, rfl, h1, ⟨_, q1, q2⟩⟩
theorem dpAll_hand {K : PySem.W.Frag} {H : Hp} {wg : List V} {hs : List (Str × List (List Int))} {i : Nat} {v : V} (h : DpAll K H wg (hs.map handD)) (e : wg[i]? = some v) : ∃ (b r : Addr) (x : Str × List (List Int)), v = .ref b ∧ hs[i]? = some x ∧ x ∈ hs ∧ SqT K H b [.str x.1, .ref r] ∧ RowsAt K H r x.2 := by
  obtain ⟨d, g, _, dp⟩ := dpAll_get h e
  rw [List.getElem?_map] at g
  obtain ⟨x, hx, rfl⟩ := Option.map_eq_some_iff.mp g
  obtain ⟨b, r, e1, e2, e3⟩ := dp_hand dp
  exact ⟨b, r, x, e1, hx, List.mem_of_getElem? hx, e2, e3⟩
/-- the rows of those hands whose names are asked for -/
def selR (ns : List Str) (hs : List (Str × List (List Int))) : List (List Int) := hs.flatMap fun h => if h.1 ∈ ns then h.2 else []
theorem sel_take {ns : List Str} {hs : List (Str × List (List Int))} {i : Nat} {x : Str × List (List Int)} (h : hs[i]? = some x) : selR ns (hs.take (i + 1)) = selR ns (hs.take i) ++ (if x.1 ∈ ns then x.2 else []) := by
  unfold selR
  rw [List.take_add_one, h, List.flatMap_append]
  congr 1
  simp only [Option.toList, List.flatMap_cons, List.flatMap_nil, List.append_nil]
theorem sel_ok {p : Int} {n : Nat} {ns : List Str} {hs : List (Str × List (List Int))} (h : ∀ x ∈ hs, RowsOk p n x.2) : RowsOk p n (selR ns hs) := by
  intro r hr
  obtain ⟨x, hx, hr⟩ := List.mem_flatMap.mp hr
  by_cases hn : x.1 ∈ ns
  · rw [if_pos hn] at hr
    exact h x hx r hr
  · rw [if_neg hn] at hr
    cases hr
theorem sel_len {ns : List Str} {B : Nat} : ∀ {hs : List (Str × List (List Int))}, (∀ x ∈ hs, x.2.length ≤ B) → (selR ns hs).length ≤ B * hs.length
  | [], _ => Nat.zero_le _
  | x :: hs, h => by
    have a := sel_len (ns := ns) (hs := hs) (fun y hy => h y (List.mem_cons_of_mem _ hy))
    have b := h x List.mem_cons_self
    have e : selR ns (x :: hs) = (if x.1 ∈ ns then x.2 else []) ++ selR ns hs := rfl
    rw [e, List.length_append, List.length_cons, Nat.mul_add, Nat.mul_one]
    by_cases hn : x.1 ∈ ns
    · rw [if_pos hn]
      omega
    · rw [if_neg hn, List.length_nil]
      omega
theorem flat_strs : ∀ ns : List Str, (ns.map V.str).all flatV = true
  | [] => rfl
  | x :: ns => by
    rw [List.map_cons, List.all_cons, flat_strs ns]
    rfl
theorem in_strs (x : Str) (ns : List Str) : inV (.str x) (ns.map V.str) = decide (x ∈ ns) := by
  unfold inV
  rw [List.any_map]
  by_cases h : x ∈ ns
  · rw [decide_eq_true h]
    refine List.any_eq_true.mpr ⟨x, h, ?_⟩
    show (x == x) = true
    exact beq_self_eq_true x
  · rw [decide_eq_false h]
    refine List.any_eq_false.mpr fun y hy e => h ?_
    have e : (y == x) = true := e
    rw [← eq_of_beq e]
    exact hy
end OC
set_option Elab.async false
set_option linter.all false
set_option maxRecDepth 100000
set_option maxHeartbeats 4000000
set_option Elab.async false
set_option linter.all false
set_option maxRecDepth 100000
set_option maxHeartbeats 4000000
namespace OC
open PySem PySem.Spec PyProof.Rows L2
theorem zero_iff {n : Nat} {l : List Int} (h : l.length = n) : (∀ y ∈ l, y = 0) ↔ l = List.replicate n 0 := by
  rw [List.eq_replicate_iff]
  exact ⟨fun z => ⟨h, z⟩, fun z => z.2⟩
theorem PFR.rows {p : Int} {n : Nat} {room : List (List Int)} (h : PFR p n room) : RowsOk p n room := fun r hr => h.1 r hr
/-- what is left of a row is nothing if the room holds it -/
theorem left_zero {p : Int} (hF : Fld p) {n : Nat} {room : List (List Int)} (h : PFR p n room) {r : List Int} (hr : RowsOk p n [r]) (hl : (leftR p room r).length = n) : (∀ y ∈ leftR p room r, y = 0) ↔ InR p room r := by
  rw [zero_iff hl, ← hasR_in hF h.rows hr, ← left_iff hF h hr]
  exact ⟨fun e => decide_eq_true e, fun e => of_decide_eq_true e⟩
end OC
set_option Elab.async false
set_option linter.all false
set_option maxRecDepth 100000
set_option maxHeartbeats 4000000
set_option Elab.async false
set_option linter.all false
set_option maxRecDepth 100000
set_option maxHeartbeats 4000000
namespace OC
open PySem PySem.Spec PyProof.Rows L2
/-- a drawn stand -/
structure Stand5 (p : Int) (n : Nat) (kn : List (List Int)) (hs : List (Str × List (List Int))) : Prop where
  fld : Fld p
  p1 : p ≤ 1000
  n1 : 1 ≤ n
  n8 : n ≤ 8
  pk : PFR p n kn
  ph : ∀ h ∈ hs, PFR p n h.2
  inn : ∀ h ∈ hs, ∀ r ∈ kn, InR p h.2 r
  few : 2 ≤ hs.length
  many : hs.length ≤ 9
  srt : sortedS (hs.map Prod.fst) = true
  nd : (hs.map Prod.fst).Nodup
  nm : ∀ x ∈ hs.map Prod.fst, NameOk x
end OC
set_option Elab.async false
set_option linter.all false
set_option maxRecDepth 100000
set_option maxHeartbeats 4000000
/-! what repr asks, with bounds; comprehensions of things with old lists in them -/
namespace OC
open PySem PySem.Spec PyProof.Rows L2
structure FitZ (B k : Nat) (d : PyData) : Prop where
  len : d.shown.length ≤ B
  sh : d.showable = true
  dp : d.depth ≤ k
theorem FitZ.mono {B B' k k' : Nat} {d : PyData} (h : FitZ B k d) (hB : B ≤ B') (hk : k ≤ k') : FitZ B' k' d := ⟨Nat.le_trans h.len hB, h.sh, Nat.le_trans h.dp hk⟩
theorem FitZ.fit {B k : Nat} {d : PyData} (h : FitZ B k d) (hB : B ≤ 10000000) (hk : k ≤ 55) : FitS d := ⟨Nat.le_trans h.len hB, h.sh, Nat.le_trans h.dp hk⟩
theorem FitB.z {B k : Nat} {d : PyData} (h : FitB B k d) : FitZ B k d := ⟨h.len, h.sh, h.dp⟩
theorem fitz_int {i : Int} (h0 : -1000000 ≤ i) (h1 : i ≤ 1000000) : FitZ 50 0 (.int i) := (fit_int (Nat.lt_of_le_of_lt (show i.natAbs ≤ 1000000 by omega) (by decide))).z
theorem fitz_tuple {B k n : Nat} {ds : List PyData} (hl : ds.length ≤ n) (h : ∀ d ∈ ds, FitZ B k d) : FitZ (n * (B + 2) + 3) (k + 1) (.tuple ds) := by
  refine ⟨?_, ?_, ?_⟩
  · simp only [PyData.shown]
    refine Nat.le_trans (tupleText_len_le _) ?_
    rw [shownAll_map, List.length_map]
    have h1 := sum_le (B := B) (ts := ds.map PyData.shown) fun t ht => by
      obtain ⟨d, m, rfl⟩ := List.mem_map.mp ht
      exact (h d m).len
    rw [List.length_map] at h1
    have h2 : ds.length * (B + 2) ≤ n * (B + 2) := Nat.mul_le_mul_right _ hl
    rw [Nat.mul_add] at h2
    omega
  · simp only [PyData.showable]
    exact showAll_of fun d m => (h d m).sh
  · simp only [PyData.depth]
    have := depthAll_of fun d m => (h d m).dp
    omega
theorem fitz_name {x : Str} (h : NameOk x) : FitZ 82 0 (.str x) := by
  refine ⟨?_, by simp [PyData.showable], by simp [PyData.depth]⟩
  simp only [PyData.shown]
  have := PySem.StrLaws.reprText_len x fun c hc => Nat.lt_of_le_of_lt (h.2.2 c hc).2 (by decide)
  have := h.2.1
  omega
/-- a thing within a thing -/
structure OkE (d : PyData) : Prop where
  l : lenOk d
  f : FitZ 600 2 d
theorem okE_ints {r : List Int} (h : ∀ x ∈ r, -1000000 ≤ x ∧ x ≤ 1000000) (hl : r.length ≤ 10) : OkE (rowD r) :=
  ⟨by show (r.map PyData.int).length ≤ 1000; rw [List.length_map]; omega, (fitz_tuple (n := 10) (by rw [List.length_map]; exact hl) fun d m => by
    obtain ⟨x, mx, rfl⟩ := List.mem_map.mp m
    exact fitz_int (h x mx).1 (h x mx).2).mono (by decide) (by decide)⟩
theorem okE_row {p : Int} {n : Nat} {r : List Int} (hp : p ≤ 1000) (hn : n ≤ 8) (h : RowsOk p n [r]) : OkE (rowD r) := by
  obtain ⟨h1, h2⟩ := h r List.mem_cons_self
  exact okE_ints (fun x hx => by have := h2 x hx; omega) (by omega)
theorem okE_rows {p : Int} {n : Nat} {rs : List (List Int)} (hp : p ≤ 1000) (hn : n ≤ 8) (h : RowsOk p n rs) : ∀ d ∈ rs.map rowD, OkE d := fun d m => by
  obtain ⟨r, mr, rfl⟩ := List.mem_map.mp m
  exact okE_row hp hn (rowsOk_one (h r mr))
theorem fitz_rows {p : Int} {n : Nat} {rs : List (List Int)} (hp : p ≤ 1000) (hn : n ≤ 8) (h : RowsOk p n rs) (hl : rs.length ≤ 8) : FitZ 4819 3 (.tuple (rs.map rowD)) := fitz_tuple (n := 8) (by rw [List.length_map]; exact hl) fun d m => (okE_rows hp hn h d m).f
theorem fitz_stand {p : Int} {n : Nat} {kn : List (List Int)} {hs : List (Str × List (List Int))} (S : Stand5 p n kn hs) : FitZ 400000 6 (standD p n kn hs) := by
  have n8 := S.n8
  have p1 := S.p1
  have p2 := S.fld.1
  have lk := PFR.len S.fld S.pk
  have hands : FitZ 99990 5 (.tuple (hs.map handD)) := by
    refine (fitz_tuple (B := 9645) (k := 4) (n := 9) (by rw [List.length_map]; exact S.many) fun d m => ?_).mono (by decide) (by decide)
    obtain ⟨h, mh, rfl⟩ := List.mem_map.mp m
    unfold handD
    refine (fitz_tuple (B := 4819) (k := 3) (n := 2) (Nat.le_refl _) fun d m => ?_).mono (by decide) (by decide)
    have lh := PFR.len S.fld (S.ph h mh)
    simp only [List.mem_cons, List.not_mem_nil, or_false] at m
    rcases m with rfl | rfl
    · exact (fitz_name (S.nm _ (List.mem_map_of_mem mh))).mono (by decide) (by decide)
    · exact fitz_rows p1 n8 (S.ph h mh).1 (by omega)
  unfold standD
  refine (fitz_tuple (B := 99990) (k := 5) (n := 4) (Nat.le_refl _) fun d m => ?_).mono (by decide) (by decide)
  simp only [List.mem_cons, List.not_mem_nil, or_false] at m
  rcases m with rfl | rfl | rfl | rfl
  · exact (fitz_int (by omega) (by omega)).mono (by decide) (by decide)
  · exact (fitz_int (by omega) (by omega)).mono (by decide) (by decide)
  · exact (fitz_rows p1 n8 S.pk.1 (by omega)).mono (by decide) (by decide)
  · exact hands
theorem Drw.some {d c e : Addr} {t : Int} {H : Hp} (D : Drw H d c e t) {a : Addr} (b : Bd3 d c e a) : H a ≠ none := by
  obtain ⟨cells, rests, h1, h2, _⟩ := D.hc
  rcases b with z | z | z
  · subst z; rw [D.hd]; exact fun z => nomatch z
  · subst z; rw [h1]; exact fun z => nomatch z
  · subst z; rw [h2]; exact fun z => nomatch z
mutual
/-- data without lists, as a thing -/
theorem rep_noL {K : PySem.W.Frag} {H : Hp} {bad : Addr → Prop} : ∀ (d : PyData) (v : V), noL d = true → Dp K H v d → Rep K H bad v d
  | .none, _, _, h => by cases h; exact .non
  | .bool b, _, _, h => by cases h; exact .bl b
  | .int i, _, _, h => by cases h; exact .int i
  | .str x, _, _, h => by cases h; exact .str x
  | .list ds, _, n, _ => by simp [noL] at n
  | .dict ds, _, _, h => by cases h
  | .tuple ds, _, n, h => by
    cases h with
    | tup h1 h2 => exact .tup h1 (repAll_noL ds _ (by simpa [noL] using n) h2)
theorem repAll_noL {K : PySem.W.Frag} {H : Hp} {bad : Addr → Prop} : ∀ (ds : List PyData) (vs : List V), noLAll ds = true → DpAll K H vs ds → RepAll K H bad vs ds
  | [], _, _, h => by cases h; exact .nil
  | d :: ds, _, n, h => by
    have n' : noL d = true ∧ noLAll ds = true := by simpa [noLAll] using n
    cases h with
    | cons h1 h2 => exact .cons (rep_noL d _ n'.1 h1) (repAll_noL ds _ n'.2 h2)
end
end OC
set_option Elab.async false
set_option linter.all false
set_option maxRecDepth 100000
set_option maxHeartbeats 2000000
/-! errors of classes of one's own, made without an argument; defs that may raise, by name -/
namespace OC
open PySem PySem.Spec PyProof.Rows L2
/-- as Ok, for a def that may raise -/
structure OkX (P : Program) (w : World) (K : PySem.W.Frag) (mg : Str → Option Value) (base : Heap) (k : Nat) (x : Str) (ps : List Str) (sp : Sp) : Prop where
  ex : ∃ (f : Addr) (fd : FuncData), FnOk P w K mg base (L2.CX P w) k f fd ps sp ∧ mg x = some (.ref f) ∧ PySem.W.keepIn K (.ref f) = true ∧ Binds K fd ps []
section
variable {P : Program} {w : World} {K : PySem.W.Frag} {mg : Str → Option Value} {base : Heap}
theorem OkX.mono {x : Str} {ps : List Str} {j k : Nat} {sp : Sp} (O : OkX P w K mg base j x ps sp) (h : j ≤ k) : OkX P w K mg base k x ps sp := by
  obtain ⟨f, fd, F, r⟩ := O.ex
  exact ⟨f, fd, F.mono h, r⟩
end
end OC
set_option Elab.async false
set_option linter.all false
set_option maxRecDepth 100000
set_option maxHeartbeats 2000000
/-! zip of a list and a tuple -/
namespace OC
open PySem PySem.Spec PyProof.Rows L2
/-- the list at a and the tuple at b as they stand at each turn, the items in new pairs -/
def ItzM (K : PySem.W.Frag) (a b : Addr) : It :=
  ⟨fun i H => ∃ (xs ys : List V) (x y : V), SqL K H a xs ∧ SqT K H b ys ∧ xs[i]? = some x ∧ ys[i]? = some y,
    fun i H v H' => ∃ T x y, v = .ref T ∧ H T = none ∧ H' = upd H T (.tup [x, y]) ∧ (∀ xs, SqL K H a xs → xs[i]? = some x) ∧ ∀ ys, SqT K H b ys → ys[i]? = some y,
    fun i H => ∃ xs ys : List V, SqL K H a xs ∧ SqT K H b ys ∧ i ≤ xs.length ∧ i ≤ ys.length ∧ (i = xs.length ∨ i = ys.length)⟩
theorem sep_of {z TI TO i1 i2 l1 l2 : Addr} (D : ZipApart z TI TO i1 i2 l1 l2) : ZipSep2 z TI TO i1 i2 [i1, l1] [i2, l2] where
  TIz := D.TIz
  TOz := D.TOz
  TITO := D.TITO
  TIi1 := D.TIi1
  mem1 := by simp
  zf1 := by simp; exact ⟨Ne.symm D.i1z, Ne.symm D.l1z⟩
  Tf1 := by simp; exact ⟨D.TOi1, Ne.symm D.l1TO⟩
  TIi2 := D.TIi2
  mem2 := by simp
  zf2 := by simp; exact ⟨Ne.symm D.i2z, Ne.symm D.l2z⟩
  Tf2 := by simp; exact ⟨D.TOi2, Ne.symm D.l2TO⟩
  sep1_2 := by simp; exact ⟨D.i12, Ne.symm D.l2i1⟩
  sep2_1 := by simp; exact ⟨Ne.symm D.i12, Ne.symm D.l1i2⟩
theorem turn_zipM {P : Program} {w : World} {K : PySem.W.Frag} {elts : List Expr} {kk : Nat} {tpos : Pos} {a b z TI TO i1 i2 : Addr} (D : ZipApart z TI TO i1 i2 a b) :
    Turn P w K (.Tuple elts kk tpos) (ItzM K a b) [z, TI, TO, i1, i2] z (fun i h => IsZip h z TI TO .none ∧ IsTupOf2 h TI (.ref i1) (.ref i2) ∧ (∃ x y, IsTupOf2 h TO x y) ∧ h.IsListIter i1 a i ∧ h.IsTupleIter i2 b i) where
  mem := by simp
  obj := fun i h st c hc => by
    obtain ⟨hz, hTI, ⟨x, y, hTO⟩, ⟨o1, e1, _, d1⟩, ⟨o2, e2, _, d2⟩⟩ := st
    have e' : c = z ∨ c = TI ∨ c = TO ∨ c = i1 ∨ c = i2 := by simpa using hc
    rcases e' with q | q | q | q | q
    · rw [q]; exact ⟨_, hz, fun v q => nomatch q⟩
    · rw [q]; exact ⟨_, hTI, fun v q => nomatch q⟩
    · rw [q]; exact ⟨_, hTO, fun v q => nomatch q⟩
    · rw [q]; exact ⟨o1, e1, fun v q => by rw [d1] at q; cases q⟩
    · rw [q]; exact ⟨o2, e2, fun v q => by rw [d2] at q; cases q⟩
  keep := fun i h h' st k => by
    obtain ⟨hz, hTI, ⟨x, y, hTO⟩, h1, h2⟩ := st
    exact ⟨k z (by simp) _ hz, k TI (by simp) _ hTI, ⟨x, y, k TO (by simp) _ hTO⟩, h1.at fun o q => k i1 (by simp) o q, h2.at fun o q => k i2 (by simp) o q⟩
  item := by
    intro X hP hw hK hc i pins s σ H E I hf st hg
    subst hP hw hK
    obtain ⟨hz, hTI, ⟨x0, y0, hTO⟩, h1, h2⟩ := st
    obtain ⟨xs, ys, x, y, hqx, hqy, hx, hy⟩ := hg
    obtain ⟨its, rv, p, _⟩ := I.list hqx
    obtain ⟨its2, rv2, p2, _⟩ := I.tuple hqy
    obtain ⟨u, hu, ru⟩ := rv.get hx
    obtain ⟨u2, hu2, ru2⟩ := rv2.get hy
    have hzl : z < s.heap.objs.size := Heap.lt_size hz
    have hh : X.A.in1.handled = none := I.ok.hd hc
    refine wpAny_pyNext_zipD2_item (sep_of D) (Draws.list hh i1 a D.l1i1 its.toArray) (Draws.tuple hh i2 b D.l2i2 its2.toArray) hz hTI hTO ⟨h1, p.isList⟩ ⟨h2, p2⟩ ?_ ?_ fun x1 x2 h' tk y1 y2 z' TO' st1' st2' hT hsz hk => ?_
    · have := (List.getElem?_eq_some_iff.mp hu).1
      simpa using this
    · have := (List.getElem?_eq_some_iff.mp hu2).1
      simpa using this
    have e1 : x1 = u := by
      have : its[i]? = some x1 := by simpa using y1
      rw [hu] at this
      exact (Option.some.inj this).symm
    have e2 : x2 = u2 := by
      have : its2[i]? = some x2 := by simpa using y2
      rw [hu2] at this
      exact (Option.some.inj this).symm
    subst e1 e2
    refine ⟨_, rfl, wpAny_letOwnedTupleGo_zip (s := { s with heap := h', toks := tk }) z' fun h'' z'' sb => ?_⟩
    have hT2 : h''.get? s.heap.objs.size = some { cls := .type "tuple", data := .seq #[x1, x2] } := (sb.2 _ (Nat.ne_of_gt hzl)).trans hT
    have new : ObjOk X.prog X.w (upd H s.heap.objs.size (.tup [x, y])) h'' s.heap.objs.size (.tup [x, y]) :=
      ⟨by show 2 ≤ sizeLine; decide, [x1, x2], .cons ru (.cons ru2 .nil), ⟨_, hT2, rfl, _, rfl⟩⟩
    have I1 : Inv X pins σ (upd H s.heap.objs.size (.tup [x, y])) { s with heap := h'', toks := tk } :=
      I.turnedNew (t' := tk) (ch := [z, TI, TO, i1, i2]) (fun c o hb q => (sb.2 c (fun q' => hb (by simp [q']))).trans (hk c o (fun q' => hb (by simp [q'])) (fun q' => hb (by simp [q'])) (fun q' => hb (by simp [q'])) (fun q' => hb (by simp [q'])) q)) hf (Nat.le_refl _) new
    refine ⟨.ref s.heap.objs.size, _, I1, rfl, ⟨_, x, y, rfl, I.hok.fresh (Nat.le_refl _), rfl, fun l hl => by rw [I.list_inj hl hqx]; exact hx, fun l hl => by rw [I.tuple_inj hl hqy]; exact hy⟩, ⟨z'', ?_, ⟨x1, x2, ?_⟩, ?_, ?_⟩, fun c hcm => ?_⟩
    · exact (sb.2 _ D.TIz).trans (hk _ _ D.TIz D.TITO D.TIi1 D.TIi2 hTI)
    · exact (sb.2 _ D.TOz).trans TO'
    · exact st1'.1.at fun o q => (sb.2 _ D.i1z).trans q
    · exact st2'.1.at fun o q => (sb.2 _ D.i2z).trans q
    · have hlt : c < s.heap.objs.size := by
        have e' : c = z ∨ c = TI ∨ c = TO ∨ c = i1 ∨ c = i2 := by simpa using hcm
        rcases e' with q | q | q | q | q
        · rw [q]; exact hzl
        · rw [q]; exact Heap.lt_size hTI
        · rw [q]; exact Heap.lt_size hTO
        · rw [q]; obtain ⟨_, e1, _⟩ := h1; exact Heap.lt_size e1
        · rw [q]; obtain ⟨_, e2, _⟩ := h2; exact Heap.lt_size e2
      rw [upd_ne (Nat.ne_of_lt hlt)]
      exact (hf c hcm).1
  done := by
    intro X hP hw hK hc i pins s σ H E I hf st hg
    subst hP hw hK
    obtain ⟨hz, hTI, ⟨x0, y0, hTO⟩, h1, h2⟩ := st
    obtain ⟨xs, ys, hqx, hqy, le1, le2, hend⟩ := hg
    obtain ⟨its, rv, p, _⟩ := I.list hqx
    obtain ⟨its2, rv2, p2, _⟩ := I.tuple hqy
    have l1 := rv.length
    have l2 := rv2.length
    have hh : X.A.in1.handled = none := I.ok.hd hc
    have sz1 : its.toArray.size = its.length := by simp
    have sz2 : its2.toArray.size = its2.length := by simp
    exact wpAny_pyNext_zipD2_end (sep_of D) (Draws.list hh i1 a D.l1i1 its.toArray) (Draws.tuple hh i2 b D.l2i2 its2.toArray) hz hTI hTO ⟨h1, p.isList⟩ ⟨h2, p2⟩ (by omega) (by omega) (by omega) fun h' tk hk => ⟨rfl, I.turnedL (t' := tk) (ch := [z, TI, TO, i1, i2]) (fun c o hb q =>
      hk c o (fun q' => hb (by simp [q'])) (fun q' => hb (by simp [q'])) (fun q' => hb (by simp [q'])) (fun q' => hb (by simp [q'])) q) hf⟩
  self := fun A i s Q E st h => wpAny_pyIter_zip st.1 h
/-- zip(xs, ys): two tuples, or a list and a tuple -/
def iZipB (K : PySem.W.Frag) (ta : TA) : TI := fun σ H R => ta σ H fun vs H1 => ∃ a b xs ys, vs = [.ref a, .ref b] ∧ SqT K H1 b ys ∧ ((SqT K H1 a xs ∧ R (RZ.ItzT K a b) H1) ∨ (SqL K H1 a xs ∧ R (ItzM K a b) H1))
theorem pi_zipB {X : Cx} {e e2 : Expr} {ta : TA} {p pos tpos : Pos} {elts : List Expr} {kk : Nat} (hg : Gl X "zip") (hm : X.mg "zip" = none) (ha : PA X [e, e2] ta)
    (hs : starEach [e, e2] X.env = (false, eval e X.env) :: starEach [e2] X.env := by rfl) (hpl : (backTo pos (starEach [e2] X.env)).any (·.1) = false := by rfl) :
    PI X (.Tuple elts kk tpos) (.Call (.Name "zip" p) [e, e2] [] pos) (iZipB X.K ta) := by
  refine ⟨fun pins s σ H R I h => ?_⟩
  refine Call_ (ld_blt I hg hm PyProof.Rows.boot_zip (PyProof.Rows.callWith_type1 (thn (ha.run pos pins s σ H _ I h) fun us s1 ⟨vs, H1, I1, r1, q1⟩ => ?_) hs hpl))
  obtain ⟨a, b, xs, ys, ex, hqy, q⟩ := q1
  subst ex
  cases r1 with
  | cons r rr =>
    cases rr with
    | cons r' rr =>
      cases rr
      cases r
      cases r'
      have fresh5 : ∀ c, c ∈ [s1.heap.objs.size + 4, s1.heap.objs.size + 2, s1.heap.objs.size + 3, s1.heap.objs.size, s1.heap.objs.size + 1] → FpOk X pins H1 c := fun c hcm => by
        have hle : s1.heap.objs.size ≤ c := by
          have e' : c = s1.heap.objs.size + 4 ∨ c = s1.heap.objs.size + 2 ∨ c = s1.heap.objs.size + 3 ∨ c = s1.heap.objs.size ∨ c = s1.heap.objs.size + 1 := by simpa using hcm
          rcases e' with z | z | z | z | z
          · rw [z]; exact Nat.le_add_right _ _
          · rw [z]; exact Nat.le_add_right _ _
          · rw [z]; exact Nat.le_add_right _ _
          · rw [z]; exact Nat.le_refl _
          · rw [z]; exact Nat.le_add_right _ _
        exact I1.fpOk hle (I1.hok.fresh hle)
      rcases q with ⟨hqx, q⟩ | ⟨hqx, q⟩
      · obtain ⟨its, rv, p1, _⟩ := I1.tuple hqx
        obtain ⟨its2, rv2, p2, _⟩ := I1.tuple hqy
        obtain ⟨o1, ho1, _⟩ := id p1
        obtain ⟨o2, ho2, _⟩ := id p2
        refine RZ.call_zipT (show s1.heap.IsTuple a its.toArray from p1) (show s1.heap.IsTuple b its2.toArray from p2) fun h' hz hTI hTO h1 h2 hsz hk => wpAny_pyIter_zip hz ?_
        have I2 : Inv X pins σ H1 { s1 with heap := h' } := I1.kept (t' := s1.toks) hk
        exact ⟨s1.heap.objs.size + 4, [s1.heap.objs.size + 4, s1.heap.objs.size + 2, s1.heap.objs.size + 3, s1.heap.objs.size, s1.heap.objs.size + 1], _, _, H1, rfl, I2, RZ.turn_zipT (PySem.W.ktu_apart s1.heap.objs.size a b (Heap.lt_size ho1) (Heap.lt_size ho2)), ⟨hz, hTI, ⟨_, _, hTO⟩, h1, h2⟩, fresh5, q⟩
      · obtain ⟨its, rv, p1, _⟩ := I1.list hqx
        obtain ⟨its2, rv2, p2, _⟩ := I1.tuple hqy
        obtain ⟨o2, ho2, _⟩ := id p2
        refine zip_begins2 (begins_list a its.toArray) (begins_tuple b its2.toArray) p1.isList (show s1.heap.IsTuple b its2.toArray from p2) fun h' hz hTI hTO h1 h2 hsz hk => wpAny_pyIter_zip hz ?_
        have I2 : Inv X pins σ H1 { s1 with heap := h' } := I1.kept (t' := s1.toks) hk
        exact ⟨s1.heap.objs.size + 4, [s1.heap.objs.size + 4, s1.heap.objs.size + 2, s1.heap.objs.size + 3, s1.heap.objs.size, s1.heap.objs.size + 1], _, _, H1, rfl, I2, turn_zipM (PySem.W.ktu_apart s1.heap.objs.size a b p1.lt (Heap.lt_size ho2)), ⟨hz, hTI, ⟨_, _, hTO⟩, ⟨_, h1, rfl, rfl⟩, ⟨_, h2, rfl, rfl⟩⟩, fresh5, q⟩
end OC
set_option Elab.async false
set_option linter.all false
set_option maxRecDepth 100000
set_option maxHeartbeats 2000000
/-! t.index(i) of a tuple of ints -/
set_option Elab.async false
set_option linter.all false
set_option maxRecDepth 100000
set_option maxHeartbeats 4000000
namespace OC
open PySem PySem.Spec PyProof.Rows L2
/-! ### tuples that are known to have no dict: their methods -/
def TupF (H : Hp) (l : Addr) (xs : List V) : Prop := ∃ o : Obj, o.dict = none ∧ H l = some (.frz o (.tup xs))
theorem TupF.sq {K : PySem.W.Frag} {H : Hp} {l : Addr} {xs : List V} (h : TupF H l xs) : SqT K H l xs := by
  obtain ⟨o, _, h⟩ := h
  exact .inl (.inr ⟨o, h⟩)
theorem TupF.same {H H' : Hp} {l : Addr} {xs : List V} (s : Same H H') (h : TupF H l xs) : TupF H' l xs := by
  obtain ⟨o, n, h⟩ := h
  exact ⟨o, n, s _ _ h⟩
end OC
set_option Elab.async false
set_option linter.all false
set_option maxRecDepth 100000
set_option maxHeartbeats 4000000
namespace OC
open PySem PySem.Spec PyProof.Rows L2
theorem noLAll_of : ∀ {ds : List PyData}, (∀ d ∈ ds, noL d = true) → noLAll ds = true
  | [], _ => rfl
  | x :: ds, h => by
    simp only [noLAll, Bool.and_eq_true]
    exact ⟨h x List.mem_cons_self, noLAll_of fun d hd => h d (List.mem_cons_of_mem _ hd)⟩
end OC
set_option Elab.async false
set_option linter.all false
set_option maxRecDepth 100000
set_option maxHeartbeats 4000000
/-! stage 4's plain form: rows reduced by one another, by mixes -/
namespace OC
open PySem PySem.Spec PyProof.Rows L2 Lin
inductive FAll (H : Hp) : List V → List (List Int) → Prop
  | nil : FAll H [] []
  | cons {b : Addr} {g : List Int} {vs : List V} {gs : List (List Int)} : TupF H b (g.map V.int) → FAll H vs gs → FAll H (.ref b :: vs) (g :: gs)
theorem FAll.same {H H' : Hp} (s : Same H H') : ∀ {vs : List V} {gs : List (List Int)}, FAll H vs gs → FAll H' vs gs
  | _, _, .nil => .nil
  | _, _, .cons h t => .cons (h.same s) (t.same s)
theorem FAll.app {H : Hp} : ∀ {vs us : List V} {gs hs : List (List Int)}, FAll H vs gs → FAll H us hs → FAll H (vs ++ us) (gs ++ hs)
  | _, _, _, _, .nil, h => h
  | _, _, _, _, .cons h t, h2 => .cons h (t.app h2)
theorem FAll.len {H : Hp} : ∀ {vs : List V} {gs : List (List Int)}, FAll H vs gs → vs.length = gs.length
  | _, _, .nil => rfl
  | _, _, .cons _ t => by rw [List.length_cons, List.length_cons, t.len]
theorem FAll.get {H : Hp} : ∀ {vs : List V} {gs : List (List Int)} {i : Nat} {v : V}, FAll H vs gs → vs[i]? = some v → ∃ b g, v = .ref b ∧ gs[i]? = some g ∧ TupF H b (g.map V.int)
  | _, _, _, _, .nil, h => by simp at h
  | _, _, 0, _, .cons (b := b) (g := g) h t, e => by cases e; exact ⟨b, g, rfl, rfl, h⟩
  | _, _, i + 1, v, .cons h t, e => t.get (i := i) (v := v) e
theorem FAll.mut {H : Hp} {D : Addr} {xs : List V} {o : HO} (e : H D = some (.lst xs)) : ∀ {vs : List V} {gs : List (List Int)}, FAll H vs gs → FAll (upd H D o) vs gs
  | _, _, .nil => .nil
  | _, _, .cons h t => by
    obtain ⟨ob, n, h⟩ := h
    exact .cons ⟨ob, n, by rw [upd_ne (fun z => by rw [z, e] at h; cases h)]; exact h⟩ (t.mut e)
theorem FAll.dp {K : PySem.W.Frag} {H : Hp} : ∀ {vs : List V} {gs : List (List Int)}, FAll H vs gs → DpAll K H vs (gs.map rowD)
  | _, _, .nil => .nil
  | _, _, .cons h t => .cons (row_dp h.sq) t.dp
end OC
set_option Elab.async false
set_option linter.all false
set_option maxRecDepth 100000
set_option maxHeartbeats 4000000
/-! stage 4's drawn stands -/
set_option Elab.async false
set_option linter.all false
set_option maxRecDepth 100000
set_option maxHeartbeats 4000000
/-! sorted of a list of data: tuples of texts, tuples of these, the empty tuple first among them -/
namespace OC
open PySem PySem.W PySem.Spec PyProof.Rows L2 SeqAt
section
variable {prog : Program} {w : World} {A : Around} {E : Value → Shared → Prop} {s : Shared}
theorem oneLt_tuples {xs ys : List PyData} {a b : Value} {as bs : List Addr} {Q : Bool → Shared → Prop} (ra : Reads s.heap a (.tuple xs) as) (rb : Reads s.heap b (.tuple ys) bs) (h : alike (.tuple xs) (.tuple ys) = true)
    (hu : A.units + min (PyData.tuple xs).depth (PyData.tuple ys).depth < cLine) (hq : Q (dataLt (.tuple xs) (.tuple ys)) s) : wpAny (model prog w) A (oneLt' true a b) Q E s := by
  have hal : alikeAll xs ys = true := by simpa [alike] using h
  cases ra with
  | @tuple l o vs n _ as₁ h1 h2 h3 h4 =>
    cases rb with
    | @tuple l' o' vs' n' _ bs₁ k1 k2 k3 k4 =>
      have n1 : vs.size = xs.length := by simpa using ReadsAll.length _ _ _ h4
      have n2 : vs'.size = ys.length := by simpa using ReadsAll.length _ _ _ k4
      rw [dataLt_tuple, ← firstLt_toks xs ys hal, ← n1, ← n2] at hq
      rw [oneLt'_eq]
      simp only [if_true]
      refine wpAny_bind (wpAny_cRoomFor (room_here hu) ?_)
      obtain ⟨cls, dd, data, sl⟩ := o
      obtain ⟨cls2, dd2, data2, sl2⟩ := o'
      simp only at h2 h3 k2 k3
      subst h2 h3 k2 k3
      refine wpAny_bind (wpAny_callSpecialIfBound?_slot (T := "tuple") ⟨_, h1, rfl⟩ F.slot_tuple_lt (call_meets F.slot_tuple_lt ⟨_, h1, rfl⟩ F.entry_tuple_lt (F.args_tuple_lt_2 _ _) (tuple_ltAt l l' vs vs' n n' dd dd2 sl sl2 (pairEq xs ys) (fun j => dataLt (xs.getD j .none) (ys.getD j .none))) ⟨h1, k1, fun j j1 j2 => ?_, fun j j1 j2 hj => ?_, ?_⟩))
      · have := eqAt_alikeAll xs ys A.in1 s vs.toList vs'.toList _ _ h4 k4 hal (room_in hu) j (by simpa using j1) (by simpa using j2)
        simpa using this
      · have := rcLt_alikeAll xs ys A.in1 s vs.toList vs'.toList _ _ h4 k4 hal (room_in hu) j (by simpa using j1) (by simpa using j2) hj
        simpa using this
      · exact wpAny_truthy_bool hq
end
section
variable {M : Model} {A : Around} {E : Value → Shared → Prop} {s : Shared}
/-- the first items of tuples, none of an empty one -/
theorem firsts_any : ∀ (vs : List Value) (ds : List (List PyData)) {Q : List (Option Value) → Shared → Prop}, EachIs (fun v d => ∃ as, Reads s.heap v (.tuple d) as) vs ds → (∀ fs : List (Option Value), fs.length = vs.length → (∀ i : Nat, ds[i]? = some ([] : List PyData) → fs[i]? = some (none : Option Value)) → Q fs s) → wpAny M A (vs.mapM firstOfTuple') Q E s
  | _, _, _, .nil, h => by rw [List.mapM_nil]; exact wpAny_pure (h [] rfl fun i e => by simp at e)
  | _, _, Q, .cons (a := v) (b := d) (as := vs) (bs := ds) ⟨as, r⟩ t, h => by
    cases r with
    | @tuple a o xs n _ as₁ h1 h2 h3 h4 =>
      have n1 : xs.size = d.length := by simpa using ReadsAll.length _ _ _ h4
      rw [List.mapM_cons]
      refine wpAny_bind ?_
      rw [kas_first_eq]
      refine wpAny_bind (Looks.here (show Looks M s.heap (typeOf (.ref a)) o.cls from (Looks.ld h1).andThen .now) ?_)
      rw [h2, if_neg (by first | decide | simp)]
      refine wpAny_bind (listItems_at h1 h3 (wpAny_pure ?_))
      refine wpAny_bind (firsts_any vs ds t fun fs lf hf => wpAny_pure (h _ (by rw [List.length_cons, List.length_cons, lf]) fun i e => ?_))
      cases i with
      | zero =>
        have e : d = [] := Option.some.inj e
        have z : xs.size = 0 := by rw [n1, e]; rfl
        rw [List.getElem?_cons_zero, Array.getElem?_eq_none (by omega)]
      | succ i => exact hf i e
theorem kind_empty {v₁ : Value} {vs : List Value} {d₁ : List PyData} {ds : List (List PyData)} {Q : SortKind → Shared → Prop} (e : EachIs (fun v d => ∃ as, Reads s.heap v (.tuple d) as) (v₁ :: vs) (d₁ :: ds)) (hd : d₁ = []) (h : Q oneType' s) :
    wpAny M A (keyKind' (v₁ :: vs).toArray) Q E s := by
  rw [keyKind'_eq, List.mapM_toArray, map_eq_pure_bind]
  refine wpAny_bind (wpAny_bind (firsts_any _ _ e fun fs lf hf => wpAny_pure ?_))
  have f0 : fs[0]? = some none := hf 0 (by rw [hd]; rfl)
  cases fs with
  | nil => cases f0
  | cons f fs =>
    have ef : f = none := Option.some.inj f0
    subst ef
    rw [if_neg (by simp), if_neg (by simp)]
    rw [oneTypeOnly'_eq, List.mapM_toArray, map_eq_pure_bind]
    have hT : ∀ v ∈ v₁ :: vs, Looks M s.heap (typeOf v) (.type "tuple") := fun v hv => by
      obtain ⟨d, _, as, r⟩ := e.left v hv
      exact looks_reads r
    refine wpAny_bind (wpAny_bind (wpAny_bind (kas_mapM (r := Value.type "tuple") _ (fun v hv Q' hq => (hT v hv).here hq) (wpAny_pure ?_))))
    have hall : ((List.map (fun _ => Value.type "tuple") (v₁ :: vs)).toArray.all fun x => x == Value.type "tuple") = true := by
      simp only [List.all_toArray, List.all_map, List.all_eq_true]
      intro _ _
      exact beq_self_eq_true _
    have h0 : (List.map (fun _ => Value.type "tuple") (v₁ :: vs)).toArray[0]? = some (Value.type "tuple") := by simp
    rw [h0]
    simp only [hall, if_true]
    exact wpAny_pure (wpAny_pure h)
end
/-- such data can be sorted: as the library says, or tuples of which the first is empty -/
def SortableE (ds : List PyData) : Prop := Sortable ds ∨ ∃ es : List (List PyData), ds = (PyData.tuple []) :: es.map PyData.tuple
theorem each_tup {R : Value → PyData → Prop} : ∀ {vs : List Value} {es : List (List PyData)}, EachIs R vs (es.map PyData.tuple) → EachIs (fun v d => R v (.tuple d)) vs es
  | _, [], h => by cases h; exact .nil
  | _, e :: es, h => by
    cases h with
    | cons h1 h2 => exact .cons h1 (each_tup h2)
theorem sortsAtE {prog : Program} {w : World} {A : Around} {s : Shared} {vs : List Value} {ds : List PyData} (e : EachIs (fun v d => ∃ as, Reads s.heap v d as) vs ds) (hal : AllAlike ds) (hk : SortableE ds) (hu : ∀ d, d ∈ ds → A.units + d.depth < cLine) : SortsAt prog w A s (dataKind s.heap ds) vs := by
  rcases hk with hk | ⟨es, he⟩
  · exact SortsAt.data e hal hk hu
  · refine ⟨fun v hv => ?_, oneType', ?_, fun h2 E Q hq => ?_⟩
    · obtain ⟨d, hd, as, r⟩ := e.left v hv
      exact ⟨_, dataKind_some hal hd r⟩
    · intro E x y a b Q ha hb hq
      obtain ⟨d, as, hd, ra, rfl⟩ := dataKind_inv ha
      obtain ⟨d', as', hd', rb, rfl⟩ := dataKind_inv hb
      have tup : ∀ d ∈ ds, ∃ xs, d = .tuple xs := fun d hd => by
        rw [he] at hd
        rcases List.mem_cons.mp hd with rfl | hd
        · exact ⟨_, rfl⟩
        · obtain ⟨x, _, rfl⟩ := List.mem_map.mp hd
          exact ⟨_, rfl⟩
      have hdd := hal d hd d' hd'
      have hroom : A.units + min d.depth d'.depth < cLine := Nat.lt_of_le_of_lt (Nat.add_le_add_left (Nat.min_le_left _ _) _) (hu d hd)
      obtain ⟨xs, rfl⟩ := tup d hd
      obtain ⟨ys, rfl⟩ := tup d' hd'
      rw [keyLt'_oneType]
      exact oneLt_tuples ra rb hdd hroom hq
    · have e' : EachIs (fun v d => ∃ as, Reads s.heap v d as) vs (([] :: es).map PyData.tuple) := by
        rw [he] at e
        exact e
      have e2 := each_tup e'
      cases vs with
      | nil => exact absurd h2 (by simp)
      | cons v₁ vs => exact kind_empty e2 rfl hq
/-- what is sorted: the data, each with where it stands -/
def dataLeP (x y : V × PyData) : Bool := dataLe false (Prod.snd : V × PyData → PyData) x y
theorem each_pairs {R : Value → V × PyData → Prop} : ∀ {us : List Value} {ps : List (V × PyData)}, Vals (ps.map Prod.fst) us → (∀ u q, q ∈ ps → RelV q.1 u → R u q) → EachIs R us ps
  | _, [], h, _ => by
    cases h
    exact .nil
  | _, p :: ps, h, hR => by
    cases h with
    | cons h1 h2 => exact .cons (hR _ p List.mem_cons_self h1) (each_pairs h2 fun u q hq => hR u q (List.mem_cons_of_mem _ hq))
theorem pairs_each : ∀ {us : List Value} {ps : List (V × PyData)}, EachIs (fun u q => RelV q.1 u) us ps → Vals (ps.map Prod.fst) us
  | _, _, .nil => .nil
  | _, _, .cons h t => .cons h (pairs_each t)
end OC
set_option Elab.async false
set_option linter.all false
set_option maxRecDepth 100000
set_option maxHeartbeats 4000000
/-! parts of a group: tuples of texts, all of them, sorted -/
namespace OC
open PySem PySem.Spec PyProof.Rows L2 PySem.W
def txD (s : List Str) : PyData := .tuple (s.map PyData.str)
theorem dpAll_strs {K : PySem.W.Frag} {H : Hp} : ∀ ns : List Str, DpAll K H (ns.map V.str) (ns.map PyData.str)
  | [] => .nil
  | x :: ns => .cons (.str x) (dpAll_strs ns)
/-- all the choices of names, in the order of the law -/
def setsR (ns : List Str) : List (List Str) := ns.foldl (fun acc x => acc ++ acc.map (· ++ [x])) [[]]
theorem of_pairs {K : PySem.W.Frag} {H : Hp} : ∀ {ps : List (V × PyData)}, (∀ q ∈ ps, Dp K H q.1 q.2) → DpAll K H (ps.map Prod.fst) (ps.map Prod.snd)
  | [], _ => .nil
  | p :: ps, h => .cons (h p List.mem_cons_self) (of_pairs fun q hq => h q (List.mem_cons_of_mem _ hq))
theorem sort_map {β : Type} (enc : β → PyData) (gs : List β) : (gs.map enc).mergeSort (dataLe false id) = (gs.mergeSort (dataLe false enc)).map enc := by
  rw [List.map_mergeSort (r := dataLe false enc) (s := dataLe false id) (f := enc) (l := gs) (fun a _ b _ => rfl)]
theorem name_strOk {x : Str} (h : NameOk x) : PyData.strOk x = true := by
  unfold PyData.strOk
  rw [← Array.all_toList]
  refine List.all_eq_true.mpr fun c hc => decide_eq_true ?_
  have := (h.2.2 c hc).2
  omega
theorem plain_app_le {p : Int} (hF : Fld p) {n : Nat} : ∀ (ts rs : List (List Int)), RowsOk p n rs → RowsOk p n ts → (plainR p n rs).length ≤ (plainR p n (rs ++ ts)).length
  | [], rs, _, _ => by rw [List.append_nil]; exact Nat.le_refl _
  | t :: ts, rs, h, ht => by
    have o1 := rowsOk_one (ht t List.mem_cons_self)
    have h1 := plain_one_more hF h o1
    have h2 := plain_app_le hF ts (rs ++ [t]) (rowsOk_app h o1) (fun x hx => ht x (List.mem_cons_of_mem _ hx))
    rw [List.append_assoc] at h2
    have h2 : (plainR p n (rs ++ [t])).length ≤ (plainR p n (rs ++ t :: ts)).length := h2
    omega
theorem plain_mono {p : Int} (hF : Fld p) {n : Nat} {rs ts : List (List Int)} (h1 : RowsOk p n rs) (h2 : RowsOk p n ts) (h : ∀ r ∈ rs, InR p ts r) : (plainR p n rs).length ≤ (plainR p n ts).length := by
  have e : plainR p n (rs ++ ts) = plainR p n ts := plain_same hF (rowsOk_app h1 h2) h2 (fun r hr => by
    rcases List.mem_append.mp hr with hr | hr
    · exact h r hr
    · exact InR.mem hr) (fun r hr => InR.mem (List.mem_append_right _ hr))
  rw [← e]
  exact plain_app_le hF ts rs h1 h2
theorem sel_mem {ns : List Str} {r : List Int} : ∀ {hs : List (Str × List (List Int))}, r ∈ selR ns hs → ∃ h ∈ hs, h.1 ∈ ns ∧ r ∈ h.2
  | [], hr => (nomatch hr)
  | h :: hs, hr => by
    have e : selR ns (h :: hs) = (if h.1 ∈ ns then h.2 else []) ++ selR ns hs := rfl
    rw [e] at hr
    rcases List.mem_append.mp hr with hr | hr
    · by_cases hn : h.1 ∈ ns
      · rw [if_pos hn] at hr
        exact ⟨h, List.mem_cons_self, hn, hr⟩
      · rw [if_neg hn] at hr
        exact (nomatch hr)
    · obtain ⟨x, mx, a, b⟩ := sel_mem hr
      exact ⟨x, List.mem_cons_of_mem _ mx, a, b⟩
theorem mem_sel {ns : List Str} {r : List Int} : ∀ {hs : List (Str × List (List Int))} {h : Str × List (List Int)}, h ∈ hs → h.1 ∈ ns → r ∈ h.2 → r ∈ selR ns hs
  | [], _, hh, _, _ => (nomatch hh)
  | x :: hs, h, hh, hn, hr => by
    have e : selR ns (x :: hs) = (if x.1 ∈ ns then x.2 else []) ++ selR ns hs := rfl
    rw [e]
    rcases List.mem_cons.mp hh with rfl | hh
    · rw [if_pos hn]
      exact List.mem_append_left _ hr
    · exact List.mem_append_right _ (mem_sel hh hn hr)
end OC
set_option Elab.async false
set_option linter.all false
set_option maxRecDepth 100000
set_option maxHeartbeats 4000000
/-! partings of a group; comprehensions with two clauses -/
namespace OC
open PySem PySem.Spec PyProof.Rows L2 PySem.W
/-! ### two clauses -/
/-! ### partings as data -/
def ptD (s : List (List Str)) : PyData := .tuple (s.map txD)
/-! ### the splits of some names -/
def growR (x : Str) (s : List (List Str)) : List (List (List Str)) := (List.range s.length).map (fun k => s.take k ++ ([s.getD k [] ++ [x]] ++ s.drop (k + 1))) ++ [s ++ [[x]]]
def splitsR (ns : List Str) : List (List (List Str)) := ns.foldl (fun acc x => acc.flatMap (growR x)) [[]]
structure SplitOk (ns : List Str) (s : List (List Str)) : Prop where
  pm : s.flatten.Perm ns
  ne : ∀ p ∈ s, p ≠ []
  le : s.length ≤ ns.length
theorem grow_mem {x : Str} {s t : List (List Str)} (h : t ∈ growR x s) : (∃ k, k < s.length ∧ t = s.take k ++ ([s.getD k [] ++ [x]] ++ s.drop (k + 1))) ∨ t = s ++ [[x]] := by
  unfold growR at h
  rcases List.mem_append.mp h with h | h
  · obtain ⟨k, mk, rfl⟩ := List.mem_map.mp h
    exact .inl ⟨k, List.mem_range.mp mk, rfl⟩
  · exact .inr (List.mem_singleton.mp h)
theorem split_at {s : List (List Str)} {k : Nat} (h : k < s.length) : s = s.take k ++ ([s.getD k []] ++ s.drop (k + 1)) := by
  have e : s.getD k [] = s[k] := by rw [List.getD_eq_getElem?_getD, List.getElem?_eq_getElem h]; rfl
  rw [e]
  have : [s[k]] ++ s.drop (k + 1) = s.drop k := (List.drop_eq_getElem_cons h).symm
  rw [this, List.take_append_drop]
theorem grow_ok {ns : List Str} {x : Str} {s t : List (List Str)} (o : SplitOk ns s) (h : t ∈ growR x s) : SplitOk (ns ++ [x]) t := by
  rcases grow_mem h with ⟨k, hk, rfl⟩ | rfl
  · have es := split_at hk
    refine ⟨?_, fun p hp => ?_, ?_⟩
    · have pm := o.pm
      rw [es] at pm
      simp only [List.flatten_append, List.flatten_cons, List.flatten_nil, List.append_nil] at pm ⊢
      refine List.Perm.trans ?_ (pm.append_right [x])
      simp only [List.append_assoc]
      refine List.Perm.append_left _ (List.Perm.append_left _ ?_)
      exact List.perm_append_comm
    · rcases List.mem_append.mp hp with hp | hp
      · exact o.ne p (List.mem_of_mem_take hp)
      · rcases List.mem_append.mp hp with hp | hp
        · rw [List.mem_singleton.mp hp]
          simp
        · exact o.ne p (List.mem_of_mem_drop hp)
    · have := o.le
      simp only [List.length_append, List.length_take, List.length_drop, List.length_cons, List.length_nil]
      omega
  · refine ⟨?_, fun p hp => ?_, ?_⟩
    · rw [List.flatten_append]
      exact o.pm.append_right [x]
    · rcases List.mem_append.mp hp with hp | hp
      · exact o.ne p hp
      · rw [List.mem_singleton.mp hp]
        simp
    · have := o.le
      simp only [List.length_append, List.length_cons, List.length_nil]
      omega
theorem splits_okF : ∀ (ns ms : List Str) (acc : List (List (List Str))), (∀ s ∈ acc, SplitOk ms s) → ∀ t ∈ ns.foldl (fun acc x => acc.flatMap (growR x)) acc, SplitOk (ms ++ ns) t
  | [], ms, acc, h, t, ht => by rw [List.append_nil]; exact h t ht
  | x :: ns, ms, acc, h, t, ht => by
    have := splits_okF ns (ms ++ [x]) (acc.flatMap (growR x)) (fun s hs => by
      obtain ⟨u, mu, hu⟩ := List.mem_flatMap.mp hs
      exact grow_ok (h u mu) hu) t ht
    rwa [List.append_assoc] at this
theorem splits_ok {ns : List Str} {s : List (List Str)} (h : s ∈ splitsR ns) : SplitOk ns s := by
  have := splits_okF ns [] [[]] (fun s hs => by
    rw [List.mem_singleton.mp hs]
    exact ⟨.refl _, fun p hp => (nomatch hp), Nat.le_refl _⟩) s h
  exact this
theorem splits_singleF : ∀ (ns ms : List Str) (acc : List (List (List Str))), ms.map (fun x => [x]) ∈ acc → (ms ++ ns).map (fun x => [x]) ∈ ns.foldl (fun acc x => acc.flatMap (growR x)) acc
  | [], ms, acc, h => by rw [List.append_nil]; exact h
  | x :: ns, ms, acc, h => by
    have := splits_singleF ns (ms ++ [x]) (acc.flatMap (growR x)) (List.mem_flatMap.mpr ⟨_, h, by
      unfold growR
      rw [List.map_append]
      exact List.mem_append_right _ List.mem_cons_self⟩)
    rwa [List.append_assoc] at this
theorem splits_single (ns : List Str) : ns.map (fun x => [x]) ∈ splitsR ns := splits_singleF ns [] [[]] List.mem_cons_self
/-- all partings of a group, rising -/
def partingsR (ns : List Str) : List (List (List Str)) := ((splitsR ns).filter fun s => decide (s.length > 1)).mergeSort (dataLe false ptD)
theorem partings_mem {ns : List Str} {s : List (List Str)} : s ∈ partingsR ns ↔ s ∈ splitsR ns ∧ 1 < s.length := by
  unfold partingsR
  rw [(List.mergeSort_perm _ _).mem_iff, List.mem_filter]
  exact ⟨fun h => ⟨h.1, of_decide_eq_true h.2⟩, fun h => ⟨h.1, decide_eq_true h.2⟩⟩
end OC
set_option Elab.async false
set_option linter.all false
set_option maxRecDepth 100000
set_option maxHeartbeats 4000000
/-! how much hands know together: partings of a group -/
namespace OC
open PySem PySem.Spec PyProof.Rows L2
/-- what a look at a stand asks of it -/
structure StandR (p : Int) (n : Nat) (kn : List (List Int)) (hs : List (Str × List (List Int))) : Prop where
  fld : Fld p
  p1 : p ≤ 1000
  n1 : 1 ≤ n
  n8 : n ≤ 8
  ok : RowsOk p n kn
  lk : kn.length ≤ 8
  many : hs.length ≤ 9
  rm : ∀ x ∈ hs, RowsOk p n x.2
  lr : ∀ x ∈ hs, x.2.length ≤ 8
theorem Stand5.toR {p : Int} {n : Nat} {kn : List (List Int)} {hs : List (Str × List (List Int))} (S : Stand5 p n kn hs) : StandR p n kn hs where
  fld := S.fld
  p1 := S.p1
  n1 := S.n1
  n8 := S.n8
  ok := S.pk.1
  lk := Nat.le_trans (PFR.len S.fld S.pk) S.n8
  many := S.many
  rm := fun x hx => (S.ph x hx).1
  lr := fun x hx => Nat.le_trans (PFR.len S.fld (S.ph x hx)) S.n8
/-- how much some hands know together beyond the calls -/
def sizeR (p : Int) (n : Nat) (kn : List (List Int)) (hs : List (Str × List (List Int))) (ns : List Str) : Int := ((plainR p n (kn ++ selR ns hs)).length : Int) - (kn.length : Int)
section
variable {p : Int} {n : Nat} {kn : List (List Int)} {hs : List (Str × List (List Int))}
theorem size_mono (G : StandR p n kn hs) {ns ms : List Str} (h : ∀ x ∈ ns, x ∈ ms) : sizeR p n kn hs ns ≤ sizeR p n kn hs ms := by
  have := plain_mono G.fld (n := n) (rs := kn ++ selR ns hs) (ts := kn ++ selR ms hs) (rowsOk_app G.ok (sel_ok G.rm)) (rowsOk_app G.ok (sel_ok G.rm)) (fun r hr => by
    rcases List.mem_append.mp hr with hr | hr
    · exact InR.mem (List.mem_append_left _ hr)
    · obtain ⟨x, mx, a, b⟩ := sel_mem hr
      exact InR.mem (List.mem_append_right _ (mem_sel mx (h _ a) b)))
  unfold sizeR
  omega
theorem size_pos (S : Stand5 p n kn hs) (ns : List Str) : 0 ≤ sizeR p n kn hs ns := by
  have := plain_app_le S.fld (selR ns hs) kn S.pk.1 (sel_ok S.toR.rm)
  rw [S.pk.2] at this
  unfold sizeR
  omega
theorem size_le (S : Stand5 p n kn hs) (ns : List Str) : sizeR p n kn hs ns ≤ 8 := by
  have := plainR_lenle S.fld (n := n) (rows := kn ++ selR ns hs) (rowsOk_app S.pk.1 (sel_ok S.toR.rm))
  have := S.n8
  unfold sizeR
  omega
end
theorem partings_pos {ms : List Str} (h : 2 ≤ ms.length) : 0 < (partingsR ms).length := by
  have : ms.map (fun x => [x]) ∈ partingsR ms := partings_mem.mpr ⟨splits_single ms, by rw [List.length_map]; omega⟩
  exact List.length_pos_of_mem this
end OC
set_option Elab.async false
set_option linter.all false
set_option maxRecDepth 100000
set_option maxHeartbeats 4000000
/-! sorted of a tuple of data -/
set_option Elab.async false
set_option linter.all false
set_option maxRecDepth 100000
set_option maxHeartbeats 4000000
/-! asides: a call that tells the one and not the other -/
set_option Elab.async false
set_option linter.all false
set_option maxRecDepth 100000
set_option maxHeartbeats 4000000
/-! dict() of a tuple of pairs -/
set_option Elab.async false
set_option linter.all false
set_option maxRecDepth 100000
set_option maxHeartbeats 4000000
/-! asides: all calls of a room by five -/
namespace OC
open PySem PySem.Spec PyProof.Rows L2
/-! ### a stand taken by five -/
theorem sel_one : ∀ {hs : List (Str × List (List Int))} {h : Str × List (List Int)}, (hs.map Prod.fst).Nodup → h ∈ hs → selR [h.1] hs = h.2
  | [], _, _, hh => (nomatch hh)
  | x :: hs, h, nd, hh => by
    rw [List.map_cons, List.nodup_cons] at nd
    have none : ∀ {y : Str}, y ∉ hs.map Prod.fst → selR [y] hs = [] := fun {y} ny => by
      unfold selR
      refine List.flatMap_eq_nil_iff.mpr fun z hz => if_neg fun e => ny ?_
      rw [← List.mem_singleton.mp e]
      exact List.mem_map_of_mem hz
    have cons : selR [h.1] (x :: hs) = (if x.1 ∈ [h.1] then x.2 else []) ++ selR [h.1] hs := rfl
    rw [cons]
    rcases List.mem_cons.mp hh with rfl | hh
    · rw [if_pos (List.mem_singleton.mpr rfl), none nd.1, List.append_nil]
    · rw [if_neg (fun e => nd.1 (by rw [List.mem_singleton.mp e]; exact List.mem_map_of_mem hh)), sel_one nd.2 hh]
      rfl
/-! ### the rooms by their names -/
theorem val_mem : ∀ {kvs : List (L2.Key × V)} {k : L2.Key} {v : V}, (kvs.map Prod.fst).Nodup → (k, v) ∈ kvs → valV kvs k = some v
  | [], _, _, _, h => (nomatch h)
  | x :: kvs, k, v, nd, h => by
    rw [List.map_cons, List.nodup_cons] at nd
    rcases List.mem_cons.mp h with rfl | h
    · exact valV_pos rfl
    · rw [valV_neg (fun e => nd.1 (by rw [e]; exact List.mem_map_of_mem (f := Prod.fst) h))]
      exact val_mem nd.2 h
/-- a dict that holds a room for each of those names -/
def RoomsD (K : PySem.W.Frag) (H : Hp) (o : Addr) (hs : List (Str × List (List Int))) : Prop := ∃ kvs : List (L2.Key × V), H o = some (.dK kvs) ∧ ∀ h ∈ hs, ∃ r, valV kvs (.inr h.1) = some (.ref r) ∧ RowsAt K H r h.2
theorem rowsAt_tk {K : PySem.W.Frag} {H H' : Hp} {a : Addr} {rs : List (List Int)} (k : Tk H H') (h : RowsAt K H a rs) : RowsAt K H' a rs := by
  obtain ⟨ws, h1, h2⟩ := h
  exact ⟨ws, k _ _ _ h1, dpAll_tk k _ _ (noL_rows _) h2⟩
theorem RoomsD.same {K : PySem.W.Frag} {H H' : Hp} {o : Addr} {hs : List (Str × List (List Int))} (s : Same H H') (h : RoomsD K H o hs) : RoomsD K H' o hs := by
  obtain ⟨kvs, h1, h2⟩ := h
  refine ⟨kvs, s _ _ h1, fun x hx => ?_⟩
  obtain ⟨r, h3, h4⟩ := h2 x hx
  exact ⟨r, h3, rowsAt_tk (Tk.of s) h4⟩
theorem RoomsD.kept {K : PySem.W.Frag} {H H' : Hp} {o d c : Addr} {t : Int} {hs : List (Str × List (List Int))} (D : Deck H d c t) (k : Kept d c H H') (h : RoomsD K H o hs) : RoomsD K H' o hs := by
  obtain ⟨kvs, h1, h2⟩ := h
  refine ⟨kvs, k _ _ h1 (fun z => by subst z; rw [D.hd] at h1; cases h1) (fun z => by subst z; obtain ⟨_, hc, _⟩ := D.hc; rw [hc] at h1; cases h1), fun x hx => ?_⟩
  obtain ⟨r, h3, h4⟩ := h2 x hx
  exact ⟨r, h3, rowsAt_tk (Tk.kept D k) h4⟩
/-- the stand by five, whose hands' tuple has no dict -/
def FiveAt (K : PySem.W.Frag) (H : Hp) (a : Addr) (n : Nat) (kn : List (List Int)) (hs : List (Str × List (List Int))) : Prop := ∃ (k g : Addr) (ws : List V), SqT K H a [.int 5, .int (n : Int), .ref k, .ref g] ∧ RowsAt K H k kn ∧ TupF H g ws ∧ DpAll K H ws (hs.map handD)
theorem FiveAt.same {K : PySem.W.Frag} {H H' : Hp} {a : Addr} {n : Nat} {kn : List (List Int)} {hs : List (Str × List (List Int))} (s : Same H H') (h : FiveAt K H a n kn hs) : FiveAt K H' a n kn hs := by
  obtain ⟨k, g, ws, h1, h2, h3, h4⟩ := h
  exact ⟨k, g, ws, Same.tup s h1, rowsAt_tk (Tk.of s) h2, h3.same s, dpAll_same s _ _ h4⟩
theorem FiveAt.kept {K : PySem.W.Frag} {H H' : Hp} {a d c : Addr} {t : Int} {n : Nat} {kn : List (List Int)} {hs : List (Str × List (List Int))} (D : Deck H d c t) (e : Kept d c H H') (h : FiveAt K H a n kn hs) : FiveAt K H' a n kn hs := by
  obtain ⟨k, g, ws, h1, h2, ⟨o, h5, h3⟩, h4⟩ := h
  refine ⟨k, g, ws, Kept.tup D e h1, rowsAt_tk (Tk.kept D e) h2, ⟨o, h5, e _ _ h3 (fun z => by subst z; rw [D.hd] at h3; cases h3) (fun z => by subst z; obtain ⟨_, hc, _⟩ := D.hc; rw [hc] at h3; cases h3)⟩, dpAll_tk (Tk.kept D e) _ _ (noL_hands _) h4⟩
theorem FiveAt.dp {K : PySem.W.Frag} {H : Hp} {a : Addr} {n : Nat} {kn : List (List Int)} {hs : List (Str × List (List Int))} (h : FiveAt K H a n kn hs) : Dp K H (.ref a) (standD 5 n kn hs) := by
  obtain ⟨k, g, ws, h1, ⟨wk, h2, h3⟩, h4, h5⟩ := h
  exact .tup h1 (.cons (.int 5) (.cons (.int n) (.cons (.tup h2 h3) (.cons (.tup h4.sq h5) .nil))))
end OC
set_option Elab.async false
set_option linter.all false
set_option maxRecDepth 100000
set_option maxHeartbeats 2000000
/-! zip of a tuple and a list -/
set_option Elab.async false
set_option linter.all false
set_option maxRecDepth 100000
set_option maxHeartbeats 4000000
set_option Elab.async false
set_option linter.all false
set_option maxRecDepth 100000
set_option maxHeartbeats 4000000
/-! a stand whose hands' tuple has no dict, and its rooms by their names -/
namespace OC
open PySem PySem.Spec PyProof.Rows L2
def StandAt (K : PySem.W.Frag) (H : Hp) (a : Addr) (p : Int) (n : Nat) (kn : List (List Int)) (hs : List (Str × List (List Int))) : Prop := ∃ (k g : Addr) (ws : List V), SqT K H a [.int p, .int (n : Int), .ref k, .ref g] ∧ RowsAt K H k kn ∧ TupF H g ws ∧ DpAll K H ws (hs.map handD)
section
variable {K : PySem.W.Frag} {H H' : Hp} {a d c o : Addr} {t p : Int} {n : Nat} {kn : List (List Int)} {hs : List (Str × List (List Int))}
theorem StandAt.same (s : Same H H') (h : StandAt K H a p n kn hs) : StandAt K H' a p n kn hs := by
  obtain ⟨k, g, ws, h1, h2, h3, h4⟩ := h
  exact ⟨k, g, ws, Same.tup s h1, rowsAt_tk (Tk.of s) h2, h3.same s, dpAll_same s _ _ h4⟩
theorem StandAt.kept (D : Deck H d c t) (e : Kept d c H H') (h : StandAt K H a p n kn hs) : StandAt K H' a p n kn hs := by
  obtain ⟨k, g, ws, h1, h2, ⟨o, h5, h3⟩, h4⟩ := h
  refine ⟨k, g, ws, Kept.tup D e h1, rowsAt_tk (Tk.kept D e) h2, ⟨o, h5, e _ _ h3 (fun z => by subst z; rw [D.hd] at h3; cases h3) (fun z => by subst z; obtain ⟨_, hc, _⟩ := D.hc; rw [hc] at h3; cases h3)⟩, dpAll_tk (Tk.kept D e) _ _ (noL_hands _) h4⟩
theorem StandAt.dp (h : StandAt K H a p n kn hs) : Dp K H (.ref a) (standD p n kn hs) := by
  obtain ⟨k, g, ws, h1, ⟨wk, h2, h3⟩, h4, h5⟩ := h
  exact .tup h1 (.cons (.int p) (.cons (.int n) (.cons (.tup h2 h3) (.cons (.tup h4.sq h5) .nil))))
/-- rooms[x] -/
theorem RoomsD.get (h : RoomsD K H o hs) {z : Str × List (List Int)} (mz : z ∈ hs) : ∃ r, DGet H o (.str z.1) (some (.ref r)) ∧ RowsAt K H r z.2 := by
  obtain ⟨kvs, h1, h2⟩ := h
  obtain ⟨r, h3, h4⟩ := h2 z mz
  refine ⟨r, ?_, h4⟩
  have := DGet.k (k := (Sum.inr z.1 : L2.Key)) h1
  rw [h3] at this
  exact this
/-- a hand's room is what it knows with the calls -/
theorem Stand5.own (S : Stand5 p n kn hs) {z : Str × List (List Int)} (mz : z ∈ hs) : plainR p n (kn ++ selR [z.1] hs) = z.2 := by
  rw [sel_one S.nd mz]
  have pz := S.ph z mz
  refine (plain_same S.fld (rowsOk_app S.pk.1 pz.1) pz.1 (fun r hr => ?_) fun r hr => InR.mem (List.mem_append_right _ hr)).trans pz.2
  rcases List.mem_append.mp hr with hr | hr
  · exact S.inn z mz r hr
  · exact InR.mem hr
end
end OC
set_option Elab.async false
set_option linter.all false
set_option maxRecDepth 100000
set_option maxHeartbeats 4000000
/-! max(xs, key=lambda x: x[0]) over a list of new tuples whose first thing is a whole number -/
namespace OC
open PySem PySem.Spec PyProof.Rows L2 LamX
/-- all but the frames' slots is as it was -/
structure Still (fs : List Addr) (h h' : Heap) : Prop where
  keep : ∀ b o, h.get? b = some o → b ∉ fs → h'.get? b = some o
  slot : ∀ b o, h.get? b = some o → ∃ sl, h'.get? b = some { o with slots := sl }
theorem Still.refl (fs : List Addr) (h : Heap) : Still fs h h := ⟨fun _ _ e _ => e, fun _ o e => ⟨o.slots, e⟩⟩
theorem Still.trans {fs : List Addr} {h h1 h2 : Heap} (a : Still fs h h1) (b : Still fs h1 h2) : Still fs h h2 := ⟨fun x o e n => b.keep x o (a.keep x o e n) n, fun x o e => by
  obtain ⟨s1, e1⟩ := a.slot x o e
  obtain ⟨s2, e2⟩ := b.slot x _ e1
  exact ⟨s2, e2⟩⟩
theorem Still.of {fs : List Addr} {h h' : Heap} (k : ∀ b o, h.get? b = some o → h'.get? b = some o) : Still fs h h' := ⟨fun b o e _ => k b o e, fun b o e => ⟨o.slots, k b o e⟩⟩
section
variable {X : Cx} {pins : List (Addr × Obj)} {σ : L2.St} {H : Hp} {s : Shared}
/-! ### the call -/
theorem vals_refs {its : List Value} {as : List Addr} (r : Vals (as.map V.ref) its) : its = as.map Value.ref := by
  induction as generalizing its with
  | nil => cases r; rfl
  | cons a t ih =>
    cases r with
    | cons r1 r2 => rw [List.map_cons, ← ih r2, show _ = Value.ref a from r1]
end
end OC
set_option Elab.async false
set_option linter.all false
set_option maxRecDepth 100000
set_option maxHeartbeats 2000000
/-! tables of code objects: what stays where a lambda is made; the end with one table and the modules' dict -/
namespace OC
open PySem PySem.Spec PyProof.Rows L2 LamX
/-! ### what stays -/
theorem ExtN.same {H H' : Hp} (e : Same H H') : ExtN H H' := fun b o h _ => e b o h
theorem ExtN.tk {H H' : Hp} (e : ExtN H H') : Tk H H' := fun K a xs h => by
  rcases h with (h | ⟨o, h⟩) | h
  · exact .inl (.inl (e _ _ h fun ps z => by cases z))
  · exact .inl (.inr ⟨o, e _ _ h fun ps z => by cases z⟩)
  · exact .inr h
theorem ExtN.lst {H H' : Hp} (e : ExtN H H') {a : Addr} {xs : List V} (h : H a = some (.lst xs)) : H' a = some (.lst xs) := e _ _ h fun ps z => by cases z
theorem ExtN.tup {H H' : Hp} (e : ExtN H H') {a : Addr} {xs : List V} (h : H a = some (.tup xs)) : H' a = some (.tup xs) := e _ _ h fun ps z => by cases z
/-- all but the deck's two lists and the tables stays -/
def KeptN (d c : Addr) (H H' : Hp) : Prop := ∀ b o, H b = some o → b ≠ d → b ≠ c → (∀ ps, o ≠ .tbl ps) → H' b = some o
theorem KeptN.refl (d c : Addr) (H : Hp) : KeptN d c H H := fun _ _ h _ _ _ => h
theorem KeptN.trans {d c : Addr} {H H1 H2 : Hp} (a : KeptN d c H H1) (b : KeptN d c H1 H2) : KeptN d c H H2 := fun x o h n m t => b x o (a x o h n m t) n m t
theorem KeptN.of {d c : Addr} {H H' : Hp} (a : Kept d c H H') : KeptN d c H H' := fun x o h n m _ => a x o h n m
theorem KeptN.ext {d c : Addr} {H H' : Hp} (a : ExtN H H') : KeptN d c H H' := fun x o h _ _ t => a x o h t
section
variable {T : List (Addr × Str)} {H H' : Hp}
theorem Tabs.same (t : Tabs T H) (e : Same H H') : Tabs T H' := t.ext e
/-- tables stay where all but two lists stays -/
theorem Tabs.kept {d c : Addr} {xs ys : List V} (t : Tabs T H) (hd : H d = some (.lst xs)) (hc : H c = some (.lst ys)) (k : Kept d c H H') : Tabs T H' := fun p hp => by
  obtain ⟨ps, h1, h2, h3⟩ := t p hp
  have nd : ∀ {b : Addr} {o : HO}, H b = some o → (∀ zs, o ≠ .lst zs) → b ≠ d ∧ b ≠ c := fun {b o} e n => ⟨fun z => by
    rw [z, hd] at e
    exact n _ (Option.some.inj e).symm, fun z => by
    rw [z, hc] at e
    exact n _ (Option.some.inj e).symm⟩
  obtain ⟨n1, n2⟩ := nd h1 (fun zs z => by cases z)
  refine ⟨ps, k _ _ h1 n1 n2, h2, fun pos cv hcv => ?_⟩
  obtain ⟨co, e1, e2⟩ := h3 pos cv hcv
  obtain ⟨m1, m2⟩ := nd e2 (fun zs z => by
    unfold CodeO at z
    cases z)
  exact ⟨co, e1, k _ _ e2 m1 m2⟩
end
/-! ### the end -/
end OC
set_option Elab.async false
set_option linter.all false
set_option maxRecDepth 100000
set_option maxHeartbeats 4000000
/-! a def whose code object is known -/
namespace OC
open PySem PySem.Spec PyProof.Rows L2 LamX
/-- a def by name, its code object at c -/
structure DfC (K : PySem.W.Frag) (mg : Str → Option Value) (x : Str) (st : Stmt) (ps : List Str) (c : Addr) : Prop where
  ex : ∃ (f : Addr) (oc : Value) (od an : Option Addr) (kV doc pm ct : Value) (osl : Array (Option Value)),
    K.lookup f = some ⟨oc, od, .func (PySem.W.fnOf x x (defArgs st) (defBody st) (defScope st) .none kV doc pm an (.ref c) ct), osl⟩ ∧ PySem.W.codeIn K (.ref c) x = true ∧ PySem.W.keepIn K (.ref f) = true ∧ mg x = some (.ref f) ∧
    Binds K (PySem.W.fnOf x x (defArgs st) (defBody st) (defScope st) .none kV doc pm an (.ref c) ct) ps []
section
variable {P : Program} {w : World} {K : PySem.W.Frag} {mg : Str → Option Value} {base : Heap}
theorem DfC.ok {x : Str} {st : Stmt} {N ps : List Str} {k : Nat} {c : Addr} {sp : Sp} (D : DfC K mg x st ps c) (S : FnScope N ps (defScope st)) (len : ∀ vs H Q E, sp vs H Q E → vs.length = ps.length)
    (hbody : ∀ (f : Addr) (A : Around) (outer : List Env) (s : Shared) (H : Hp) (vs : List V) (Q : VK) (E : XK), Room k (A.deeper (envOfC x (defScope st) s.heap.objs.size f (.ref c))) → sp vs H Q E →
      ∃ t, PSs (cxOf CX0 P w K mg base N x (defScope st) f (.ref c) A outer s H E).nox (defBody st) t ∧ t { nx := fun _ H' => Q .non H', rt := Q } (start N vs) H) : Ok P w K mg base (k + 1) x ps sp := by
  obtain ⟨f, oc, od, an, kV, doc, pm, ct, osl, lk, hc, hk, hm, hb⟩ := D.ex
  refine ⟨f, _, fn_of (CX := CX0) lk hc S len fun A outer s H vs Q E hr hsp => ?_, hm, hk, hb⟩
  obtain ⟨t, ht, hq⟩ := hbody f A outer s H vs Q E hr hsp
  exact ⟨t, ht.nox, hq⟩
end
end OC
set_option Elab.async false
set_option linter.all false
set_option maxRecDepth 100000
set_option maxHeartbeats 4000000
/-! rooms of parts: a dict whose keys are tuples of names -/
namespace OC
open PySem PySem.Spec PyProof.Rows L2
def pk (q : List Str) : List L2.Key := q.map Sum.inr
theorem pk_inj {q r : List Str} (h : pk q = pk r) : q = r := by
  unfold pk at h
  induction q generalizing r with
  | nil => cases r with
    | nil => rfl
    | cons _ _ => cases h
  | cons x q ih => cases r with
    | nil => cases h
    | cons y r =>
      obtain ⟨h1, h2⟩ := List.cons.inj h
      rw [Sum.inr.inj h1, ih h2]
/-! ### all choices of some names -/
/-- every part of a group, in the group's order, is one of its choices -/
theorem partF_in : ∀ (ns q : List Str) (acc : List (List Str)) (r : List Str), q.Sublist ns → r ∈ acc → r ++ q ∈ ns.foldl (fun acc x => acc ++ acc.map (· ++ [x])) acc
  | [], q, acc, r, h, hr => by
    rw [List.sublist_nil.mp h, List.append_nil]
    exact hr
  | y :: ns, q, acc, r, h, hr => by
    cases h with
    | cons _ h => exact partF_in ns q _ r h (List.mem_append_left _ hr)
    | cons_cons _ h =>
      rename_i q'
      have := partF_in ns q' (acc ++ acc.map (· ++ [y])) (r ++ [y]) h (List.mem_append_right _ (List.mem_map_of_mem hr))
      rwa [List.append_assoc] at this
theorem part_in {ns q : List Str} (h : q.Sublist ns) : q ∈ setsR ns := partF_in ns q [[]] [] h (by simp)
/-! ### the group's hands, in the stand's order -/
def gR (ns : List Str) (hs : List (Str × List (List Int))) : List Str := (hs.map Prod.fst).filter fun x => decide (x ∈ ns)
theorem gR_sub : ∀ {ms ns : List Str}, ms.Sublist ns → ns.Nodup → ns.filter (fun x => decide (x ∈ ms)) = ms
  | _, _, .slnil, _ => rfl
  | ms, y :: ns, .cons _ h, nd => by
    obtain ⟨ny, nd'⟩ := List.nodup_cons.mp nd
    rw [List.filter_cons_of_neg (by simp; exact fun z => ny (h.mem z))]
    exact gR_sub h nd'
  | y :: ms, _ :: ns, .cons_cons _ h, nd => by
    obtain ⟨ny, nd'⟩ := List.nodup_cons.mp nd
    rw [List.filter_cons_of_pos (by simp)]
    congr 1
    have e : ns.filter (fun x => decide (x ∈ y :: ms)) = ns.filter (fun x => decide (x ∈ ms)) := List.filter_congr fun x hx => by
      have : x ≠ y := fun z => ny (by rw [← z]; exact hx)
      simp [this]
    rw [e]
    exact gR_sub h nd'
/-! ### the rooms -/
/-- the room of a part -/
def roomR (p : Int) (n : Nat) (kn : List (List Int)) (hs : List (Str × List (List Int))) (q : List Str) : List (List Int) := plainR p n (kn ++ selR q hs)
section
variable {p : Int} {n : Nat} {kn : List (List Int)} {hs : List (Str × List (List Int))}
theorem room_rows (S : Stand5 p n kn hs) (q : List Str) : RowsOk p n (kn ++ selR q hs) := rowsOk_app S.pk.1 (sel_ok S.toR.rm)
theorem room_pf (S : Stand5 p n kn hs) (q : List Str) : PFR p n (roomR p n kn hs q) := PFR.of_plain S.fld (room_rows S q)
theorem room_nil (S : Stand5 p n kn hs) : roomR p n kn hs [] = kn := by
  unfold roomR
  have : selR [] hs = [] := by
    unfold selR
    induction hs with
    | nil => rfl
    | cons x hs ih => simp
  rw [this, List.append_nil]
  exact S.pk.2
end
/-! ### the dict -/
theorem val_none {kvs : List (List L2.Key × V)} {k : List L2.Key} (h : k ∉ kvs.map (·.1)) : valV kvs k = none := by
  unfold valV
  rw [Option.map_eq_none_iff, List.find?_eq_none]
  intro x hx e
  exact h (by rw [← of_decide_eq_true e]; exact List.mem_map_of_mem hx)
/-- the dict at o tells a room f q by each of the parts ps, in this order -/
structure RoomsT (K : PySem.W.Frag) (H : Hp) (o : Addr) (f : List Str → List (List Int)) (ps : List (List Str)) (kvs : List (List L2.Key × V)) : Prop where
  at_ : H o = some (.dT kvs)
  keys : kvs.map (·.1) = ps.map pk
  val : ∀ q ∈ ps, ∃ r, valV kvs (pk q) = some (.ref r) ∧ RowsAt K H r (f q)
section
variable {K : PySem.W.Frag} {H H' : Hp} {o : Addr} {f : List Str → List (List Int)} {ps : List (List Str)} {kvs : List (List L2.Key × V)}
theorem RoomsT.len (h : RoomsT K H o f ps kvs) : kvs.length = ps.length := by
  have := congrArg List.length h.keys
  rwa [List.length_map, List.length_map] at this
theorem RoomsT.same (h : RoomsT K H o f ps kvs) (s : Same H H') : RoomsT K H' o f ps kvs := ⟨s _ _ h.at_, h.keys, fun q hq => by
  obtain ⟨r, a, b⟩ := h.val q hq
  exact ⟨r, a, b.same s⟩⟩
theorem Tk.dic {D : Addr} {u : HO} (h : H D = some (.dT kvs)) : Tk H (upd H D u) := fun K a xs q => by
  have ne : ∀ {w : HO}, H a = some w → (∀ k, w ≠ .dT k) → a ≠ D := fun {w} e n z => by
    rw [z, h] at e
    exact n _ (Option.some.inj e).symm
  rcases q with (q | ⟨x, q⟩) | q
  · exact .inl (.inl (by rw [upd_ne (ne q fun k z => by cases z)]; exact q))
  · exact .inl (.inr ⟨x, by rw [upd_ne (ne q fun k z => by cases z)]; exact q⟩)
  · exact .inr q
theorem RoomsT.put (h : RoomsT K H o f ps kvs) {q : List Str} {l : Addr} (nq : q ∉ ps) (hl : RowsAt K H l (f q)) : RoomsT K (upd H o (.dT (putK kvs (pk q) (.ref l)))) o f (ps ++ [q]) (putK kvs (pk q) (.ref l)) := by
  have nk : valV kvs (pk q) = none := val_none (by
    rw [h.keys]
    intro z
    obtain ⟨r, mr, e⟩ := List.mem_map.mp z
    exact nq (by rw [← pk_inj e]; exact mr))
  have tk : Tk H (upd H o (.dT (putK kvs (pk q) (.ref l)))) := Tk.dic h.at_
  refine ⟨upd_same, by rw [putK_new _ nk, List.map_append, h.keys, List.map_append]; rfl, fun r hr => ?_⟩
  rw [valV_put]
  by_cases e : pk r = pk q
  · rw [if_pos e, pk_inj e]
    exact ⟨l, rfl, RowsAt.tk2 tk hl⟩
  · rw [if_neg e]
    rcases List.mem_append.mp hr with hr | hr
    · obtain ⟨a, x, y⟩ := h.val r hr
      exact ⟨a, x, RowsAt.tk2 tk y⟩
    · exact (e (by rw [List.mem_singleton.mp hr])).elim
end
end OC
set_option Elab.async false
set_option linter.all false
set_option maxRecDepth 100000
set_option maxHeartbeats 4000000
/-! d[t]: t any tuple that is known, not just one in the heap -/
set_option Elab.async false
set_option linter.all false
set_option maxRecDepth 100000
set_option maxHeartbeats 4000000
/-! the greatest bound; a def whose code object is known -/
namespace OC
open PySem PySem.Spec PyProof.Rows L2 LamX
/-! ### parts of splits stand in the group's order -/
theorem split_subF : ∀ (ns : List Str) (acc : List (List (List Str))) (A : List Str), (∀ s ∈ acc, ∀ q ∈ s, q.Sublist A) → ∀ s ∈ ns.foldl (fun acc x => acc.flatMap (growR x)) acc, ∀ q ∈ s, q.Sublist (A ++ ns)
  | [], acc, A, h, s, hs, q, hq => by
    rw [List.append_nil]
    exact h s hs q hq
  | x :: ns, acc, A, h, s, hs, q, hq => by
    have := split_subF ns (acc.flatMap (growR x)) (A ++ [x]) (fun t ht r hr => by
      obtain ⟨u, mu, ht⟩ := List.mem_flatMap.mp ht
      have old : ∀ y ∈ u, y.Sublist (A ++ [x]) := fun y hy => (h u mu y hy).trans (List.sublist_append_left _ _)
      rcases grow_mem ht with ⟨k, hk, rfl⟩ | rfl
      · rcases List.mem_append.mp hr with hr | hr
        · exact old r (List.mem_of_mem_take hr)
        · rcases List.mem_append.mp hr with hr | hr
          · rw [List.mem_singleton.mp hr]
            refine List.Sublist.append (h u mu _ ?_) (List.Sublist.refl _)
            rw [List.getD_eq_getElem?_getD, List.getElem?_eq_getElem hk]
            exact List.getElem_mem hk
          · exact old r (List.mem_of_mem_drop hr)
      · rcases List.mem_append.mp hr with hr | hr
        · exact old r hr
        · rw [List.mem_singleton.mp hr]
          exact List.sublist_append_right _ _) s hs q hq
    rwa [List.append_assoc] at this
theorem split_sub {ns : List Str} {s : List (List Str)} (h : s ∈ splitsR ns) {q : List Str} (hq : q ∈ s) : q.Sublist ns := by
  have := split_subF ns [[]] [] (fun s hs q hq => by
    rw [List.mem_singleton.mp hs] at hq
    cases hq) s h q hq
  rwa [List.nil_append] at this
/-! ### the greatest bound -/
def boundOf (z : Int) (ns : List Int) : Int := z - (ns.sum - z) / ((ns.length : Int) - 1)
/-- the bound of a parting, by how much its parts know -/
def boundG (f : List Str → Int) (ms : List Str) (P : List (List Str)) : Int := boundOf (f ms) (P.map f)
/-- the first of the group's partings with the greatest bound -/
structure BestP (f : List Str → Int) (ms : List Str) (P : List (List Str)) : Prop where
  ex : ∃ m : Nat, (partingsR ms)[m]? = some P ∧ ∀ (j : Nat) (P' : List (List Str)), (partingsR ms)[j]? = some P' → boundG f ms P' ≤ boundG f ms P ∧ (j < m → boundG f ms P' < boundG f ms P)
theorem BestP.uniq {f : List Str → Int} {ms : List Str} {P P' : List (List Str)} (a : BestP f ms P) (b : BestP f ms P') : P = P' := by
  obtain ⟨m, hm, am⟩ := a.ex
  obtain ⟨m', hm', bm⟩ := b.ex
  have h1 := am m' P' hm'
  have h2 := bm m P hm
  rcases Nat.lt_trichotomy m m' with h | h | h
  · have := h2.2 h
    omega
  · subst h
    rw [hm] at hm'
    exact Option.some.inj hm'
  · have := h1.2 h
    omega
theorem BestP.mem {f : List Str → Int} {ms : List Str} {P : List (List Str)} (a : BestP f ms P) : P ∈ partingsR ms := by
  obtain ⟨m, hm, _⟩ := a.ex
  exact List.mem_of_getElem? hm
theorem BestP.le {f : List Str → Int} {ms : List Str} {P P' : List (List Str)} (a : BestP f ms P) (h : P' ∈ partingsR ms) : boundG f ms P' ≤ boundG f ms P := by
  obtain ⟨m, hm, am⟩ := a.ex
  obtain ⟨j, hj, e⟩ := List.getElem_of_mem h
  exact (am j P' (by rw [List.getElem?_eq_getElem hj, e])).1
end OC
set_option Elab.async false
set_option linter.all false
set_option maxRecDepth 100000
set_option maxHeartbeats 4000000
/-! dict() of a list of pairs whose keys are tuples; lists of tuples of names that stand in the heap -/
namespace OC
open PySem PySem.Spec PyProof.Rows L2 PySem.W
/-! ### tuples of names in the heap -/
inductive TxAll (H : Hp) : List V → List (List Str) → Prop
  | nil : TxAll H [] []
  | cons {b : Addr} {q : List Str} {ws : List V} {qs : List (List Str)} : H b = some (.tup (q.map V.str)) → TxAll H ws qs → TxAll H (.ref b :: ws) (q :: qs)
theorem txD_inj {q r : List Str} (h : txD q = txD r) : q = r := by
  unfold txD at h
  injection h with h
  induction q generalizing r with
  | nil => cases r with
    | nil => rfl
    | cons _ _ => cases h
  | cons x q ih => cases r with
    | nil => cases h
    | cons y r =>
      obtain ⟨h1, h2⟩ := List.cons.inj h
      injection h1 with h1
      rw [h1, ih h2]
section
variable {H H' : Hp}
theorem TxAll.same (s : Same H H') : ∀ {ws : List V} {qs : List (List Str)}, TxAll H ws qs → TxAll H' ws qs
  | _, _, .nil => .nil
  | _, _, .cons h t => .cons (s _ _ h) (t.same s)
theorem TxAll.app : ∀ {ws us : List V} {qs rs : List (List Str)}, TxAll H ws qs → TxAll H us rs → TxAll H (ws ++ us) (qs ++ rs)
  | _, _, _, _, .nil, h => h
  | _, _, _, _, .cons h t, g => .cons h (t.app g)
theorem TxAll.len : ∀ {ws : List V} {qs : List (List Str)}, TxAll H ws qs → ws.length = qs.length
  | _, _, .nil => rfl
  | _, _, .cons _ t => by rw [List.length_cons, List.length_cons, t.len]
theorem TxAll.get : ∀ {ws : List V} {qs : List (List Str)} {i : Nat} {v : V}, TxAll H ws qs → ws[i]? = some v → ∃ b q, v = .ref b ∧ qs[i]? = some q ∧ q ∈ qs ∧ H b = some (.tup (q.map V.str))
  | _, _, _, _, .nil, e => by simp at e
  | _, _, 0, _, .cons (b := b) (q := q) h t, e => by
    cases e
    exact ⟨b, q, rfl, rfl, List.mem_cons_self, h⟩
  | _, _, i + 1, v, .cons h t, e => by
    obtain ⟨b, q, e1, e2, e3, e4⟩ := t.get (i := i) (v := v) e
    exact ⟨b, q, e1, e2, List.mem_cons_of_mem _ e3, e4⟩
theorem TxAll.drop : ∀ {ws : List V} {qs : List (List Str)} (k : Nat), TxAll H ws qs → TxAll H (ws.drop k) (qs.drop k)
  | _, _, 0, h => h
  | _, _, _ + 1, .nil => .nil
  | _, _, k + 1, .cons _ t => t.drop k
theorem TxAll.mut {D : Addr} {xs ys : List V} (e : H D = some (.lst xs)) : ∀ {ws : List V} {qs : List (List Str)}, TxAll H ws qs → TxAll (upd H D (.lst ys)) ws qs
  | _, _, .nil => .nil
  | _, _, .cons h t => .cons (by
      rw [upd_ne (fun z => by
        rw [z, e] at h
        cases h)]
      exact h) (t.mut e)
theorem TxAll.dp {K : PySem.W.Frag} : ∀ {ws : List V} {qs : List (List Str)}, TxAll H ws qs → DpAll K H ws (qs.map txD)
  | _, _, .nil => .nil
  | _, _, .cons h t => .cons (.tup (.inl (.inl h)) (dpAll_strs _)) t.dp
/-- each with its data, in any order -/
theorem TxAll.pairs : ∀ {ws : List V} {qs : List (List Str)}, TxAll H ws qs → ∀ p ∈ ws.zip (qs.map txD), ∃ b q, p = (.ref b, txD q) ∧ H b = some (.tup (q.map V.str))
  | _, _, .nil, p, hp => (nomatch hp)
  | _, _, .cons (b := b) (q := q) h t, p, hp => by
    rw [List.map_cons, List.zip_cons_cons] at hp
    rcases List.mem_cons.mp hp with rfl | hp
    · exact ⟨b, q, rfl, h⟩
    · exact t.pairs p hp
theorem TxAll.of : ∀ {ps : List (V × PyData)} {rs : List (List Str)}, (∀ p ∈ ps, ∃ b q, p = (.ref b, txD q) ∧ H b = some (.tup (q.map V.str))) → ps.map Prod.snd = rs.map txD → TxAll H (ps.map Prod.fst) rs
  | [], [], _, _ => .nil
  | [], _ :: _, _, e => by cases e
  | _ :: _, [], _, e => by cases e
  | p :: ps, r :: rs, h, e => by
    rw [List.map_cons, List.map_cons] at e
    obtain ⟨e1, e2⟩ := List.cons.inj e
    obtain ⟨b, q, rfl, hb⟩ := h p List.mem_cons_self
    have : q = r := txD_inj e1
    subst this
    exact .cons hb (TxAll.of (fun p hp => h p (List.mem_cons_of_mem _ hp)) e2)
end
/-! ### dict() -/
end OC
set_option Elab.async false
set_option linter.all false
set_option maxRecDepth 100000
set_option maxHeartbeats 4000000
/-! min of a list of data; the least of the pairs of a number and a parting -/
set_option Elab.async false
set_option linter.all false
set_option maxRecDepth 100000
set_option maxHeartbeats 4000000
/-! tables stay while numbers are drawn; what repr asks of a pair of a number and a parting -/
set_option Elab.async false
set_option linter.all false
set_option maxRecDepth 100000
set_option maxHeartbeats 4000000
/-! the least number of calls: the greatest bound -/
namespace OC
open PySem PySem.Spec PyProof.Rows L2
/-- the greatest of some whole numbers -/
def topR : List Int → Int
  | [] => 0
  | x :: xs => xs.foldl (fun a y => if a < y then y else a) x
theorem topF : ∀ (xs : List Int) (x : Int), (xs.foldl (fun a y => if a < y then y else a) x = x ∨ xs.foldl (fun a y => if a < y then y else a) x ∈ xs) ∧ x ≤ xs.foldl (fun a y => if a < y then y else a) x ∧ ∀ y ∈ xs, y ≤ xs.foldl (fun a y => if a < y then y else a) x
  | [], x => ⟨.inl rfl, Int.le_refl _, fun y hy => (nomatch hy)⟩
  | z :: xs, x => by
    rw [List.foldl_cons]
    obtain ⟨h1, h2, h3⟩ := topF xs (if x < z then z else x)
    generalize xs.foldl (fun a y => if a < y then y else a) (if x < z then z else x) = m at h1 h2 h3
    by_cases c : x < z
    · rw [if_pos c] at h1 h2
      refine ⟨.inr ?_, by omega, fun y hy => ?_⟩
      · rcases h1 with h | h
        · rw [h]; exact List.mem_cons_self
        · exact List.mem_cons_of_mem _ h
      · rcases List.mem_cons.mp hy with rfl | hy
        · exact h2
        · exact h3 y hy
    · rw [if_neg c] at h1 h2
      refine ⟨?_, h2, fun y hy => ?_⟩
      · rcases h1 with h | h
        · exact .inl h
        · exact .inr (List.mem_cons_of_mem _ h)
      · rcases List.mem_cons.mp hy with rfl | hy
        · omega
        · exact h3 y hy
theorem top_mem {xs : List Int} (h : 0 < xs.length) : topR xs ∈ xs := by
  cases xs with
  | nil => exact absurd h (Nat.lt_irrefl _)
  | cons x xs =>
    rcases (topF xs x).1 with e | e
    · exact List.mem_cons.mpr (.inl e)
    · exact List.mem_cons_of_mem _ e
theorem top_le {xs : List Int} : ∀ y ∈ xs, y ≤ topR xs := by
  cases xs with
  | nil => exact fun y hy => (nomatch hy)
  | cons x xs =>
    intro y hy
    rcases List.mem_cons.mp hy with rfl | hy
    · exact (topF xs y).2.1
    · exact (topF xs x).2.2 y hy
theorem top_is {xs : List Int} {m : Int} (h : m ∈ xs) (hm : ∀ y ∈ xs, y ≤ m) : m = topR xs := by
  have h1 := top_le m h
  have h2 := hm _ (top_mem (List.length_pos_of_mem h))
  omega
/-- how few calls bring a group at one -/
def fewR (f : List Str → Int) (ms : List Str) : Int := topR ((partingsR ms).map (boundG f ms))
theorem BestP.few {f : List Str → Int} {ms : List Str} {P : List (List Str)} (a : BestP f ms P) : boundG f ms P = fewR f ms := by
  refine top_is (List.mem_map_of_mem a.mem) fun y hy => ?_
  obtain ⟨P', mP, rfl⟩ := List.mem_map.mp hy
  exact a.le mP
theorem few_le {f : List Str → Int} {ms : List Str} {P : List (List Str)} (h : P ∈ partingsR ms) : boundG f ms P ≤ fewR f ms := top_le _ (List.mem_map_of_mem h)
/-! ### one hand and the others -/
theorem splits_snoc (ns : List Str) (x : Str) : splitsR (ns ++ [x]) = (splitsR ns).flatMap (growR x) := by
  unfold splitsR
  rw [List.foldl_append]
  rfl
theorem grow_new (x : Str) (s : List (List Str)) : s ++ [[x]] ∈ growR x s := by
  unfold growR
  exact List.mem_append_right _ (List.mem_singleton.mpr rfl)
theorem grow_at (x : Str) {s : List (List Str)} {k : Nat} (h : k < s.length) : s.take k ++ ([s.getD k [] ++ [x]] ++ s.drop (k + 1)) ∈ growR x s := by
  unfold growR
  exact List.mem_append_left _ (List.mem_map.mpr ⟨k, List.mem_range.mpr h, rfl⟩)
theorem split_one : ∀ (r : List Str), r ≠ [] → [r.reverse] ∈ splitsR r.reverse
  | [], h => (h rfl).elim
  | x :: r, _ => by
    rw [List.reverse_cons, splits_snoc]
    by_cases e : r = []
    · subst e
      exact List.mem_flatMap.mpr ⟨[], by simp [splitsR], grow_new x []⟩
    · refine List.mem_flatMap.mpr ⟨_, split_one r e, ?_⟩
      have := grow_at x (s := [r.reverse]) (k := 0) (by simp)
      simpa using this
/-- one name apart from the others -/
theorem split_apart : ∀ (r : List Str) (x : Str), r.Nodup → x ∈ r → r.length ≥ 2 → ∃ s ∈ splitsR r.reverse, (s = [[x], r.reverse.filter (fun y => !decide (y = x))] ∨ s = [r.reverse.filter (fun y => !decide (y = x)), [x]])
  | [], _, _, h, _ => (nomatch h)
  | y :: r, x, nd, hx, l => by
    obtain ⟨ny, nd'⟩ := List.nodup_cons.mp nd
    rw [List.reverse_cons, splits_snoc, List.filter_append]
    have r0 : r ≠ [] := fun z => by
      rw [z] at l
      exact absurd l (by simp)
    by_cases e : y = x
    · subst e
      have f1 : r.reverse.filter (fun z => !decide (z = y)) = r.reverse := List.filter_eq_self.mpr fun z hz => by
        have : z ≠ y := fun q => ny (by rw [← q]; simpa using hz)
        simp [this]
      refine ⟨_, List.mem_flatMap.mpr ⟨_, split_one r r0, grow_new y [r.reverse]⟩, .inr ?_⟩
      rw [f1]
      simp
    · have mx : x ∈ r := by
        rcases List.mem_cons.mp hx with h | h
        · exact (e h.symm).elim
        · exact h
      have fy : [y].filter (fun z => !decide (z = x)) = [y] := by simp [e]
      rw [fy]
      by_cases l2 : r.length ≥ 2
      · obtain ⟨s, ms, h⟩ := split_apart r x nd' mx l2
        rcases h with h | h
        · subst h
          have := grow_at y (s := [[x], r.reverse.filter (fun z => !decide (z = x))]) (k := 1) (by simp)
          exact ⟨_, List.mem_flatMap.mpr ⟨_, ms, this⟩, .inl (by simp)⟩
        · subst h
          have := grow_at y (s := [r.reverse.filter (fun z => !decide (z = x)), [x]]) (k := 0) (by simp)
          exact ⟨_, List.mem_flatMap.mpr ⟨_, ms, this⟩, .inr (by simp)⟩
      · have l1 : r.length = 1 := by
          have := List.length_pos_of_mem mx
          omega
        obtain ⟨z, hz⟩ := List.length_eq_one_iff.mp l1
        subst hz
        have : x = z := by simpa using mx
        subst this
        refine ⟨_, List.mem_flatMap.mpr ⟨_, split_one [x] (by simp), grow_new y [[x]]⟩, .inl ?_⟩
        simp
theorem part_apart {ns : List Str} {x : Str} (nd : ns.Nodup) (hx : x ∈ ns) (l : 2 ≤ ns.length) : ∃ P ∈ partingsR ns, (P = [[x], ns.filter (fun y => !decide (y = x))] ∨ P = [ns.filter (fun y => !decide (y = x)), [x]]) := by
  obtain ⟨s, ms, h⟩ := split_apart ns.reverse x ((List.reverse_perm ns).nodup_iff.mpr nd) (by simpa using hx) (by simpa using l)
  rw [List.reverse_reverse] at ms h
  refine ⟨s, partings_mem.mpr ⟨ms, ?_⟩, h⟩
  rcases h with h | h <;> rw [h] <;> simp
/-- a call apart: whoever is apart must be told what it lacks -/
theorem few_apart {f : List Str → Int} {ns : List Str} {x : Str} (nd : ns.Nodup) (hx : x ∈ ns) (l : 2 ≤ ns.length) (mono : f (ns.filter fun y => !decide (y = x)) ≤ f ns) : f ns - f [x] ≤ fewR f ns := by
  obtain ⟨P, mP, h⟩ := part_apart nd hx l
  have e : boundG f ns P = f ns - (f [x] + f (ns.filter fun y => !decide (y = x)) - f ns) := by
    unfold boundG boundOf
    rcases h with h | h
    · subst h
      simp
    · subst h
      simp
      omega
  have := few_le (f := f) mP
  rw [e] at this
  omega
end OC
set_option Elab.async false
set_option linter.all false
set_option maxRecDepth 100000
set_option maxHeartbeats 4000000
/-! what is wanted from each part of a group -/
namespace OC
open PySem PySem.Spec PyProof.Rows L2 PySem.W
/-! ### lists that rise -/
/-! ### the lesser parts -/
/-- all parts but none and the whole group, rising -/
def lesserR (ms : List Str) : List (List Str) := ((setsR ms).filter fun q => decide (0 < q.length) && decide (q.length < ms.length)).mergeSort (dataLe false txD)
theorem lesser_mem {ms q : List Str} (h : q ∈ lesserR ms) : q ∈ setsR ms ∧ 0 < q.length ∧ q.length < ms.length := by
  unfold lesserR at h
  have h := (List.mergeSort_perm _ _).mem_iff.mp h
  obtain ⟨h1, h2⟩ := List.mem_filter.mp h
  simp only [Bool.and_eq_true, decide_eq_true_eq] at h2
  exact ⟨h1, h2⟩
theorem setsF_sub : ∀ (ns : List Str) (acc : List (List Str)) (A : List Str), (∀ q ∈ acc, q.Sublist A) → ∀ q ∈ ns.foldl (fun acc x => acc ++ acc.map (· ++ [x])) acc, q.Sublist (A ++ ns)
  | [], acc, A, h, q, hq => by
    rw [List.append_nil]
    exact h q hq
  | x :: ns, acc, A, h, q, hq => by
    have := setsF_sub ns (acc ++ acc.map (· ++ [x])) (A ++ [x]) (fun r hr => by
      rcases List.mem_append.mp hr with hr | hr
      · exact (h r hr).trans (List.sublist_append_left _ _)
      · obtain ⟨s, ms, rfl⟩ := List.mem_map.mp hr
        exact (h s ms).append (List.Sublist.refl _)) q hq
    rwa [List.append_assoc] at this
theorem sets_subl {ns q : List Str} (h : q ∈ setsR ns) : q.Sublist ns := by
  have := setsF_sub ns [[]] [] (fun q hq => by
    rw [List.mem_singleton.mp hq]
    exact List.Sublist.refl _) q h
  rwa [List.nil_append] at this
/-- those of a group that are not in a part -/
def restG (ns ps : List Str) : List Str := ns.filter fun x => !decide (x ∈ ps)
theorem rest_nil {ms q : List Str} (nd : ms.Nodup) (h : q.Sublist ms) : restG ms q = [] ↔ ¬ q.length < ms.length := by
  constructor
  · intro e lt
    have all : ∀ x ∈ ms, x ∈ q := fun x hx => by
      apply Classical.byContradiction
      intro nx
      have : x ∈ restG ms q := List.mem_filter.mpr ⟨hx, by simp [nx]⟩
      rw [e] at this
      cases this
    have := (List.Nodup.length_le_of_subset nd) all
    omega
  · intro nl
    have e : q = ms := h.eq_of_length_le (by omega)
    subst e
    unfold restG
    rw [List.filter_eq_nil_iff]
    intro x hx
    simp [hx]
/-- pairs (part, what must be heard from it) -/
def wantsR (f : List Str → Int) (ms : List Str) : List (List Str × Int) := (lesserR ms).map fun q => (q, f ms - f (restG ms q))
/-- what the numbers of a part come to -/
def comeR (ms : List Str) (ns : List Int) (q : List Str) : Int := (((ms.zip ns).filter fun x => decide (x.1 ∈ q)).map Prod.snd).sum
/-- the first part whose numbers come to less than is wanted -/
def firstW (ms : List Str) (ns : List Int) : List (List Str × Int) → Option (List Str)
  | [] => none
  | x :: xs => if comeR ms ns x.1 - x.2 < 0 then some x.1 else firstW ms ns xs
/-! ### lists of pairs (part, number) in the heap -/
inductive WAll (H : Hp) : List V → List (List Str × Int) → Prop
  | nil : WAll H [] []
  | cons {t b : Addr} {x : List Str × Int} {ws : List V} {xs : List (List Str × Int)} : H t = some (.tup [.ref b, .int x.2]) → H b = some (.tup (x.1.map V.str)) → WAll H ws xs → WAll H (.ref t :: ws) (x :: xs)
section
variable {H H' : Hp}
theorem WAll.same (s : Same H H') : ∀ {ws : List V} {xs : List (List Str × Int)}, WAll H ws xs → WAll H' ws xs
  | _, _, .nil => .nil
  | _, _, .cons h1 h2 t => .cons (s _ _ h1) (s _ _ h2) (t.same s)
theorem WAll.tk (s : ∀ a xs, H a = some (.tup xs) → H' a = some (.tup xs)) : ∀ {ws : List V} {xs : List (List Str × Int)}, WAll H ws xs → WAll H' ws xs
  | _, _, .nil => .nil
  | _, _, .cons h1 h2 t => .cons (s _ _ h1) (s _ _ h2) (t.tk s)
theorem WAll.app : ∀ {ws us : List V} {xs ys : List (List Str × Int)}, WAll H ws xs → WAll H us ys → WAll H (ws ++ us) (xs ++ ys)
  | _, _, _, _, .nil, h => h
  | _, _, _, _, .cons h1 h2 t, g => .cons h1 h2 (t.app g)
theorem WAll.len : ∀ {ws : List V} {xs : List (List Str × Int)}, WAll H ws xs → ws.length = xs.length
  | _, _, .nil => rfl
  | _, _, .cons _ _ t => by rw [List.length_cons, List.length_cons, t.len]
theorem WAll.get : ∀ {ws : List V} {xs : List (List Str × Int)} {i : Nat} {v : V}, WAll H ws xs → ws[i]? = some v → ∃ t b x, v = .ref t ∧ xs[i]? = some x ∧ H t = some (.tup [.ref b, .int x.2]) ∧ H b = some (.tup (x.1.map V.str))
  | _, _, _, _, .nil, e => by simp at e
  | _, _, 0, _, .cons (t := t) (b := b) (x := x) h1 h2 _, e => by
    cases e
    exact ⟨t, b, x, rfl, rfl, h1, h2⟩
  | _, _, i + 1, v, .cons _ _ t, e => t.get (i := i) (v := v) e
theorem WAll.mut {D : Addr} {zs ys : List V} (e : H D = some (.lst zs)) {ws : List V} {xs : List (List Str × Int)} (h : WAll H ws xs) : WAll (upd H D (.lst ys)) ws xs := h.tk fun a u q => by
  rw [upd_ne (fun z => by
    rw [z, e] at q
    cases q)]
  exact q
end
end OC
set_option Elab.async false
set_option linter.all false
set_option maxRecDepth 100000
set_option maxHeartbeats 4000000
/-! numbers for each of a group: all that come to a total, the greatest first -/
namespace OC
open PySem PySem.Spec PyProof.Rows L2 PySem.W
/-! ### the first that leaves none wanting -/
theorem firstW_none {ms : List Str} {ns : List Int} : ∀ {xs : List (List Str × Int)}, firstW ms ns xs = none → ∀ x ∈ xs, x.2 ≤ comeR ms ns x.1
  | y :: xs, h, x, hx => by
    unfold firstW at h
    split at h
    · cases h
    · rcases List.mem_cons.mp hx with rfl | hx
      · omega
      · exact firstW_none h x hx
theorem come_split {ms q : List Str} : ∀ {ys : List Str} {ns : List Int}, ys.length = ns.length → (∀ y ∈ ys, y ∈ ms) → comeR ys ns q + comeR ys ns (restG ms q) = ns.sum
  | [], [], _, _ => rfl
  | y :: ys, k :: ns, h, hm => by
    have ih := come_split (ms := ms) (q := q) (ys := ys) (ns := ns) (by simpa using h) fun z hz => hm z (List.mem_cons_of_mem _ hz)
    have my := hm y List.mem_cons_self
    unfold comeR at ih ⊢
    rw [List.zip_cons_cons, List.filter_cons, List.filter_cons, List.sum_cons]
    have e : (y ∈ restG ms q) ↔ ¬ y ∈ q := by
      unfold restG
      rw [List.mem_filter]
      simp [my]
    by_cases hy : y ∈ q
    · simp only [hy, e, not_true, decide_true, decide_false, if_true, Bool.false_eq_true, if_false, List.map_cons, List.sum_cons]
      omega
    · simp only [hy, e, not_false_iff, decide_true, decide_false, if_true, Bool.false_eq_true, if_false, List.map_cons, List.sum_cons]
      omega
theorem come_out {q : List Str} : ∀ {ys : List Str} {ns : List Int}, (∀ y ∈ ys, ¬ y ∈ q) → comeR ys ns q = 0
  | [], ns, _ => by
    unfold comeR
    simp
  | y :: ys, [], _ => by
    unfold comeR
    simp
  | y :: ys, k :: ns, h => by
    have ih := come_out (ys := ys) (ns := ns) fun z hz => h z (List.mem_cons_of_mem _ hz)
    unfold comeR at ih ⊢
    rw [List.zip_cons_cons, List.filter_cons]
    have := h y List.mem_cons_self
    simp only [this, decide_false, Bool.false_eq_true, if_false]
    exact ih
theorem come_one : ∀ {ys : List Str} {ns : List Int} {y : Str} {k : Int}, ys.Nodup → (y, k) ∈ ys.zip ns → comeR ys ns [y] = k
  | x :: ys, j :: ns, y, k, nd, h => by
    obtain ⟨n1, n2⟩ := List.nodup_cons.mp nd
    rw [List.zip_cons_cons] at h
    rcases List.mem_cons.mp h with e | h
    · cases e
      have o := come_out (q := [x]) (ys := ys) (ns := ns) fun z hz hy => n1 (by rw [← List.mem_singleton.mp hy]; exact hz)
      unfold comeR at o ⊢
      rw [List.zip_cons_cons, List.filter_cons]
      simp only [List.mem_singleton, decide_true, if_true, List.map_cons, List.sum_cons]
      simp only [List.mem_singleton] at o
      omega
    · have my := (List.of_mem_zip h).1
      have ne : ¬ x = y := fun z => n1 (by rw [z]; exact my)
      have ih := come_one n2 h
      unfold comeR at ih ⊢
      rw [List.zip_cons_cons, List.filter_cons]
      simp only [List.mem_singleton, ne, decide_false, Bool.false_eq_true, if_false]
      simp only [List.mem_singleton] at ih
      exact ih
  | [], _, _, _, _, h => by simp at h
  | _ :: _, [], _, _, _, h => by simp at h
theorem sum_nonneg {xs : List Int} (h : ∀ x ∈ xs, 0 ≤ x) : 0 ≤ xs.sum := by
  induction xs with
  | nil => exact Int.le_refl 0
  | cons x xs ih =>
    rw [List.sum_cons]
    have := ih fun y hy => h y (List.mem_cons_of_mem _ hy)
    have := h x List.mem_cons_self
    omega
theorem few_range {f : List Str → Int} {ms : List Str} (h0 : ∀ q, 0 ≤ f q) (h8 : ∀ q, f q ≤ 8) (nd : ms.Nodup) (l2 : 2 ≤ ms.length) (mono : ∀ q, f (restG ms q) ≤ f ms) (mono1 : ∀ x ∈ ms, f [x] ≤ f ms) : 0 ≤ fewR f ms ∧ fewR f ms ≤ 16 := by
  constructor
  · obtain ⟨x, hx⟩ : ∃ x, x ∈ ms := by
      cases ms with
      | nil => exact absurd l2 (by decide)
      | cons x r => exact ⟨x, List.mem_cons_self⟩
    have e : ms.filter (fun y => !decide (y = x)) = restG ms [x] := by
      unfold restG
      refine List.filter_congr fun y _ => ?_
      simp
    have a := few_apart nd hx l2 (f := f) (by rw [e]; exact mono [x])
    have b := mono1 x hx
    omega
  · have m := top_mem (xs := (partingsR ms).map (boundG f ms)) (by rw [List.length_map]; exact partings_pos l2)
    obtain ⟨P, mP, e⟩ := List.mem_map.mp m
    unfold fewR
    rw [← e]
    unfold boundG boundOf
    have gt := (partings_mem.mp mP).2
    have s0 : 0 ≤ (P.map f).sum := sum_nonneg fun y hy => by
      obtain ⟨q, _, rfl⟩ := List.mem_map.mp hy
      exact h0 q
    have m8 := h8 ms
    rw [List.length_map]
    generalize (P.map f).sum = S at s0 ⊢
    have key : -8 ≤ (S - f ms) / ((P.length : Int) - 1) := by
      rw [Int.le_ediv_iff_mul_le (by omega)]
      have : (-8 : Int) * ((P.length : Int) - 1) ≤ -8 * 1 := by omega
      omega
    omega
end OC
set_option Elab.async false
set_option linter.all false
set_option maxRecDepth 100000
set_option maxHeartbeats 4000000
/-! numbers that come to the greatest bound of a parting and leave none wanting: there are some -/
namespace OC
open PySem PySem.Spec PyProof.Rows L2 PySem.W
/-- what x comes to over a set -/
def sumP (x : Str → Int) (ms : List Str) (S : Str → Bool) : Int := ((ms.filter S).map x).sum
section
variable {x x' : Str → Int} {ms ns : List Str} {S T : Str → Bool}
theorem sumP_one {y : Str} : ∀ {ms : List Str}, ms.Nodup → y ∈ ms → sumP x ms (fun z => decide (z = y)) = x y
  | w :: ms, nd, h => by
    obtain ⟨n1, n2⟩ := List.nodup_cons.mp nd
    unfold sumP
    rw [List.filter_cons]
    by_cases e : w = y
    · subst e
      have : ms.filter (fun z => decide (z = w)) = [] := List.filter_eq_nil_iff.mpr fun z hz => by
        have : ¬ z = w := fun e => n1 (by rw [← e]; exact hz)
        simp [this]
      rw [this]
      simp
    · have my : y ∈ ms := (List.mem_cons.mp h).resolve_left fun z => e z.symm
      have := sumP_one n2 my
      unfold sumP at this
      simp only [e, decide_false, Bool.false_eq_true, if_false]
      exact this
variable {F : (Str → Bool) → Int} {α : Int}
end
end OC
set_option Elab.async false
set_option linter.all false
set_option maxRecDepth 100000
set_option maxHeartbeats 4000000
/-! the least sum of calls: numbers for each that leave none wanting -/
namespace OC
open PySem PySem.Spec PyProof.Rows L2 PySem.W
theorem perm_sum {x : Str → Int} {l m : List Str} (h : l.Perm m) : (l.map x).sum = (m.map x).sum := by
  induction h with
  | nil => rfl
  | cons a _ ih =>
    rw [List.map_cons, List.map_cons, List.sum_cons, List.sum_cons, ih]
  | swap a b l =>
    simp only [List.map_cons, List.sum_cons]
    omega
  | trans _ _ h1 h2 => exact h1.trans h2
theorem flat_sum {x : Str → Int} : ∀ P : List (List Str), (P.flatten.map x).sum = (P.map fun p => (p.map x).sum).sum
  | [] => rfl
  | p :: P => by
    rw [List.flatten_cons, List.map_append, List.sum_append, flat_sum P, List.map_cons, List.sum_cons]
theorem come_map {x : Str → Int} {q : List Str} : ∀ ms : List Str, comeR ms (ms.map x) q = sumP x ms fun z => decide (z ∈ q)
  | [] => rfl
  | y :: ms => by
    have ih := come_map (x := x) (q := q) ms
    unfold comeR sumP at ih ⊢
    rw [List.map_cons, List.zip_cons_cons, List.filter_cons, List.filter_cons]
    by_cases h : y ∈ q
    · simp only [h, decide_true, if_true, List.map_cons, List.sum_cons]
      rw [ih]
    · simp only [h, decide_false, Bool.false_eq_true, if_false]
      exact ih
theorem firstW_of {ms : List Str} {ns : List Int} : ∀ {xs : List (List Str × Int)}, (∀ w ∈ xs, w.2 ≤ comeR ms ns w.1) → firstW ms ns xs = none
  | [], _ => rfl
  | w :: xs, h => by
    unfold firstW
    have := h w List.mem_cons_self
    rw [if_neg (by omega)]
    exact firstW_of fun v hv => h v (List.mem_cons_of_mem _ hv)
/-! what hands of a stand know is such -/
end OC
set_option Elab.async false
set_option linter.all false
set_option maxRecDepth 100000
set_option maxHeartbeats 4000000
/-! numbers that leave none wanting come to the greatest bound of a parting at least -/
namespace OC
open PySem PySem.Spec PyProof.Rows L2 PySem.W
theorem parts_sum {f : List Str → Int} {x : Str → Int} {z s : Int} : ∀ {P : List (List Str)}, (∀ p ∈ P, z - f p ≤ s - (p.map x).sum) → P.length * z - (P.map f).sum ≤ P.length * s - (P.map fun p => (p.map x).sum).sum
  | [], _ => by simp
  | p :: P, h => by
    have h1 := h p List.mem_cons_self
    have h2 := parts_sum fun q hq => h q (List.mem_cons_of_mem p hq)
    rw [List.map_cons, List.map_cons, List.sum_cons, List.sum_cons, List.length_cons, Int.natCast_add, Int.add_mul, Int.add_mul]
    simp only [Int.cast_ofNat_Int, Int.one_mul]
    omega
theorem two_filters (q : Str → Bool) : ∀ l : List Str, l.length = (l.filter q).length + (l.filter fun y => !q y).length
  | [] => rfl
  | y :: l => by
    have := two_filters q l
    rw [List.filter_cons, List.filter_cons, List.length_cons]
    cases q y
    · simp only [Bool.false_eq_true, if_false, Bool.not_false, if_true, List.length_cons]
      omega
    · simp only [if_true, Bool.not_true, Bool.false_eq_true, if_false, List.length_cons]
      omega
theorem at_map {ms : List Str} {ns : List Int} (nd : ms.Nodup) (h : ms.length = ns.length) : ∃ x : Str → Int, ns = ms.map x := by
  refine ⟨fun y => comeR ms ns [y], List.ext_getElem (by rw [List.length_map]; omega) fun i h1 h2 => ?_⟩
  rw [List.getElem_map]
  refine (come_one nd (List.mem_iff_getElem.mpr ⟨i, by rw [List.length_zip]; omega, ?_⟩)).symm
  rw [List.getElem_zip]
theorem least_low {f : List Str → Int} {ms : List Str} {ns : List Int} (nd : ms.Nodup) (l2 : 2 ≤ ms.length) (hl : ms.length = ns.length) (h : firstW ms ns (wantsR f ms) = none) : fewR f ms ≤ ns.sum := by
  obtain ⟨x, rfl⟩ := at_map nd hl
  have m := top_mem (xs := (partingsR ms).map (boundG f ms)) (by rw [List.length_map]; exact partings_pos l2)
  obtain ⟨P, mP, e⟩ := List.mem_map.mp m
  unfold fewR
  rw [← e]
  obtain ⟨mS, gt⟩ := partings_mem.mp mP
  have os := splits_ok mS
  have key := parts_sum (f := f) (x := x) (z := f ms) (s := (ms.map x).sum) (P := P) fun p hp => by
    have sub := split_sub mS hp
    have ep := gR_sub sub nd
    have ne := os.ne p hp
    -- some other part has members
    have lt : p.length < ms.length := by
      have pl := os.pm.length_eq
      have := sub.length_le
      rcases Nat.lt_or_ge p.length ms.length with h | h
      · exact h
      · have lp : p.length = ms.length := by omega
        obtain ⟨q, mq, hq⟩ : ∃ q ∈ P.erase p, q ≠ [] := by
          have le : (P.erase p).length = P.length - 1 := List.length_erase_of_mem hp
          cases hE : P.erase p with
          | nil =>
            rw [hE] at le
            simp at le
            omega
          | cons q r => exact ⟨q, List.mem_cons_self, os.ne q (List.mem_of_mem_erase (by rw [hE]; exact List.mem_cons_self))⟩
        have pe := (List.perm_cons_erase hp).flatten.length_eq
        rw [List.flatten_cons, List.length_append] at pe
        have ql : q.length ≤ (P.erase p).flatten.length := (List.sublist_flatten_of_mem mq).length_le
        have q0 := List.length_pos_iff.mpr hq
        omega
    have ln : (restG ms p).length + p.length = ms.length := by
      have a := two_filters (fun y => decide (y ∈ p)) ms
      rw [ep] at a
      unfold restG
      omega
    have p0 := List.length_pos_iff.mpr ne
    have ml : restG ms p ∈ lesserR ms := by
      unfold lesserR
      refine (List.mergeSort_perm _ _).mem_iff.mpr (List.mem_filter.mpr ⟨part_in List.filter_sublist, ?_⟩)
      simp only [Bool.and_eq_true, decide_eq_true_eq]
      omega
    have w := firstW_none h (restG ms p, f ms - f (restG ms (restG ms p))) (List.mem_map.mpr ⟨_, ml, rfl⟩)
    have er : restG ms (restG ms p) = p := by
      conv => rhs; rw [← ep]
      unfold restG
      refine List.filter_congr fun y hy => ?_
      simp [List.mem_filter, hy]
    have sp := come_split (ms := ms) (q := p) hl fun _ h => h
    have cp := come_map (x := x) (q := p) ms
    unfold sumP at cp
    rw [ep] at cp
    dsimp only at w
    rw [er] at w
    omega
  rw [← flat_sum, perm_sum os.pm] at key
  unfold boundG boundOf
  rw [List.length_map]
  have : f ms - (ms.map x).sum ≤ ((P.map f).sum - f ms) / ((P.length : Int) - 1) := by
    rw [Int.le_ediv_iff_mul_le (by omega), Int.sub_mul, Int.mul_sub, Int.mul_sub, Int.mul_comm (f ms), Int.mul_comm (ms.map x).sum]
    omega
  omega
end OC
set_option Elab.async false
set_option linter.all false
set_option maxRecDepth 100000
set_option maxHeartbeats 4000000
/-! the least sum of calls: at most what the group knows; with one call less some part wants -/
set_option Elab.async false
set_option linter.all false
set_option maxRecDepth 100000
set_option maxHeartbeats 4000000
/-! calls that a group makes: what is known behind a call, and how few are left -/
namespace OC
open PySem PySem.Spec PyProof.Rows L2 PySem.W
theorem InR.sub {p : Int} {rs ts : List (List Int)} {r : List Int} (h : ∀ x ∈ rs, x ∈ ts) (hr : InR p rs r) : InR p ts r := InR.mono (fun x hx => InR.mem (h x hx)) hr
section
variable {p : Int} {n : Nat} {kn : List (List Int)} {hs : List (Str × List (List Int))} {row : List Int}
/-- the hands behind a call -/
def heardH (p : Int) (n : Nat) (row : List Int) (hs : List (Str × List (List Int))) : List (Str × List (List Int)) := hs.map fun h => (h.1, plainR p n (h.2 ++ [row]))
theorem heard_names : (heardH p n row hs).map Prod.fst = hs.map Prod.fst := by
  unfold heardH
  rw [List.map_map]
  rfl
theorem Stand5.heard (S : Stand5 p n kn hs) (hr : RowsOk p n [row]) : Stand5 p n (plainR p n (kn ++ [row])) (heardH p n row hs) where
  fld := S.fld
  p1 := S.p1
  n1 := S.n1
  n8 := S.n8
  pk := PFR.of_plain S.fld (rowsOk_app S.pk.1 hr)
  ph := fun h hh => by
    obtain ⟨x, mx, rfl⟩ := List.mem_map.mp hh
    exact PFR.of_plain S.fld (rowsOk_app (S.ph x mx).1 hr)
  inn := fun h hh r mr => by
    obtain ⟨x, mx, rfl⟩ := List.mem_map.mp hh
    refine (InR.plain S.fld (rowsOk_app (S.ph x mx).1 hr)).mpr ?_
    refine InR.mono (fun z hz => ?_) ((InR.plain S.fld (rowsOk_app S.pk.1 hr)).mp (InR.mem mr))
    rcases List.mem_append.mp hz with hz | hz
    · exact InR.sub (fun y hy => List.mem_append_left _ hy) (S.inn x mx z hz)
    · exact InR.mem (List.mem_append_right _ hz)
  few := by
    unfold heardH
    rw [List.length_map]
    exact S.few
  many := by
    unfold heardH
    rw [List.length_map]
    exact S.many
  srt := by
    rw [heard_names]
    exact S.srt
  nd := by
    rw [heard_names]
    exact S.nd
  nm := by
    rw [heard_names]
    exact S.nm
theorem room_heard (S : Stand5 p n kn hs) (hr : RowsOk p n [row]) (q : List Str) : roomR p n (plainR p n (kn ++ [row])) (heardH p n row hs) q = plainR p n (roomR p n kn hs q ++ [row]) := by
  have F := S.fld
  have S' := S.heard hr
  have oq := room_rows S q
  have ok1 := rowsOk_app S.pk.1 hr
  have up : ∀ z, InR p (kn ++ selR q hs) z → InR p (roomR p n kn hs q ++ [row]) z := fun z hz => InR.sub (fun y hy => List.mem_append_left _ hy) ((InR.plain F oq).mpr hz)
  refine plain_same F (room_rows S' q) (rowsOk_app (room_pf S q).1 hr) (fun r mr => ?_) (fun r mr => ?_)
  · rcases List.mem_append.mp mr with mr | mr
    · refine InR.mono (fun z hz => ?_) ((InR.plain F ok1).mp (InR.mem mr))
      rcases List.mem_append.mp hz with hz | hz
      · exact up z (InR.mem (List.mem_append_left _ hz))
      · exact InR.mem (List.mem_append_right _ hz)
    · obtain ⟨x, mx, a, b⟩ := sel_mem mr
      obtain ⟨y, my, rfl⟩ := List.mem_map.mp mx
      refine InR.mono (fun z hz => ?_) ((InR.plain F (rowsOk_app (S.ph y my).1 hr)).mp (InR.mem b))
      rcases List.mem_append.mp hz with hz | hz
      · exact up z (InR.mem (List.mem_append_right _ (mem_sel my a hz)))
      · exact InR.mem (List.mem_append_right _ hz)
  · have lk : ∀ z, InR p (kn ++ [row]) z → InR p (plainR p n (kn ++ [row]) ++ selR q (heardH p n row hs)) z := fun z hz => InR.sub (fun y hy => List.mem_append_left _ hy) ((InR.plain F ok1).mpr hz)
    rcases List.mem_append.mp mr with mr | mr
    · refine InR.mono (fun z hz => ?_) ((InR.plain F oq).mp (InR.mem mr))
      rcases List.mem_append.mp hz with hz | hz
      · exact lk z (InR.mem (List.mem_append_left _ hz))
      · obtain ⟨y, my, a, b⟩ := sel_mem hz
        refine InR.sub (fun u hu => List.mem_append_right _ (mem_sel (h := (y.1, plainR p n (y.2 ++ [row]))) (List.mem_map_of_mem my) a hu)) ((InR.plain F (rowsOk_app (S.ph y my).1 hr)).mpr (InR.mem (List.mem_append_left _ b)))
    · exact lk r (InR.mem (List.mem_append_right _ mr))
theorem has_room (S : Stand5 p n kn hs) (hr : RowsOk p n [row]) (q : List Str) : hasR p n (roomR p n kn hs q) row = true ↔ InR p (kn ++ selR q hs) row := hasR_plain S.fld (room_rows S q) hr
theorem has_more (S : Stand5 p n kn hs) (hr : RowsOk p n [row]) {q q' : List Str} (h : ∀ x ∈ q, x ∈ q') (e : hasR p n (roomR p n kn hs q) row = true) : hasR p n (roomR p n kn hs q') row = true := by
  rw [has_room S hr] at e ⊢
  refine InR.sub (fun z hz => ?_) e
  rcases List.mem_append.mp hz with hz | hz
  · exact List.mem_append_left _ hz
  · obtain ⟨y, my, a, b⟩ := sel_mem hz
    exact List.mem_append_right _ (mem_sel my (h _ a) b)
/-- how much is known behind a call -/
theorem size_heard (S : Stand5 p n kn hs) (hr : RowsOk p n [row]) (q : List Str) : sizeR p n (plainR p n (kn ++ [row])) (heardH p n row hs) q = sizeR p n kn hs q + (if hasR p n (roomR p n kn hs q) row = true then 0 else 1) - (if hasR p n kn row = true then 0 else 1) := by
  show ((roomR p n (plainR p n (kn ++ [row])) (heardH p n row hs) q).length : Int) - _ = ((roomR p n kn hs q).length : Int) - (kn.length : Int) + _ - _
  rw [room_heard S hr, plain_one_more S.fld (room_pf S q).1 hr, plain_one_more S.fld S.pk.1 hr, (room_pf S q).2, S.pk.2]
  cases hasR p n (roomR p n kn hs q) row <;> cases hasR p n kn row <;> simp <;> omega
end
/-! ### numbers behind a call -/
section
variable {f f' : List Str → Int} {In : List Str → Bool} {k0 : Int} {ms : List Str} {ns : List Int} {k : Nat} {y : Str}
theorem rest_mem {q : List Str} {x : Str} : x ∈ restG ms q ↔ x ∈ ms ∧ x ∉ q := by
  unfold restG
  simp [List.mem_filter]
end
end OC
set_option Elab.async false
set_option linter.all false
set_option maxRecDepth 100000
set_option maxHeartbeats 4000000
/-! a call behind which the numbers, one less, leave none wanting -/
namespace OC
open PySem PySem.Spec PyProof.Rows L2 PySem.W
/-! ### the groups that must not know the row -/
theorem lesser_sub {ms q : List Str} (h : q ∈ lesserR ms) : q.Sublist ms := sets_subl (lesser_mem h).1
theorem lesser_out {ms q : List Str} (nd : ms.Nodup) (h : q ∈ lesserR ms) : ∃ x, x ∈ restG ms q := by
  have e := rest_nil nd (lesser_sub h)
  have lt := (lesser_mem h).2.2
  cases hr : restG ms q with
  | nil => exact absurd lt (e.mp hr)
  | cons x r => exact ⟨x, List.mem_cons_self⟩
/-! ### a row of the hand outside one of these rooms -/
/-! ### five rows -/
end OC
set_option Elab.async false
set_option linter.all false
set_option maxRecDepth 100000
set_option maxHeartbeats 4000000
/-! defs with one keyword-only parameter that is None where it is not written -/
namespace OC
open PySem PySem.Spec PyProof.Rows L2
structure DfD (K : PySem.W.Frag) (mg : Str → Option Value) (x : Str) (st : Stmt) (ps : List Str) (dvs : List V) : Prop where
  ex : ∃ (f : Addr) (fd : FuncData) (ds : List Value), Fun K x x st f fd ∧ Vals dvs ds ∧ Binds K fd ps ds ∧ mg x = some (.ref f)
structure OkD (P : Program) (w : World) (K : PySem.W.Frag) (mg : Str → Option Value) (base : Heap) (k : Nat) (x : Str) (ps : List Str) (dvs : List V) (sp : Sp) : Prop where
  ex : ∃ (f : Addr) (fd : FuncData) (ds : List Value), FnOk P w K mg base CX0 k f fd ps sp ∧ mg x = some (.ref f) ∧ PySem.W.keepIn K (.ref f) = true ∧ Vals dvs ds ∧ Binds K fd ps ds
section
variable {P : Program} {w : World} {K : PySem.W.Frag} {mg : Str → Option Value} {base : Heap}
theorem DfD.ok {x : Str} {st : Stmt} {N ps : List Str} {dvs : List V} {k : Nat} {sp : Sp} (D : DfD K mg x st ps dvs) (S : FnScope N ps (defScope st)) (len : ∀ vs H Q E, sp vs H Q E → vs.length = ps.length)
    (hbody : ∀ (f : Addr) (cdv : Value) (A : Around) (outer : List Env) (s : Shared) (H : Hp) (vs : List V) (Q : VK) (E : XK), Room k (A.deeper (envOfC x (defScope st) s.heap.objs.size f cdv)) → sp vs H Q E →
      ∃ t, PSs (cxOf CX0 P w K mg base N x (defScope st) f cdv A outer s H E).nox (defBody st) t ∧ t { nx := fun _ H' => Q .non H', rt := Q } (start N vs) H) : OkD P w K mg base (k + 1) x ps dvs sp := by
  obtain ⟨f, fd, ds, F, v, b, g⟩ := D.ex
  exact ⟨f, fd, ds, F.ok S len (hbody f), g, F.kp, v, b⟩
theorem OkD.mono {x : Str} {ps : List Str} {dvs : List V} {j k : Nat} {sp : Sp} (O : OkD P w K mg base j x ps dvs sp) (h : j ≤ k) : OkD P w K mg base k x ps dvs sp := by
  obtain ⟨f, fd, ds, F, r⟩ := O.ex
  exact ⟨f, fd, ds, F.mono h, r⟩
end
end OC
set_option Elab.async false
set_option linter.all false
set_option maxRecDepth 100000
set_option maxHeartbeats 4000000
/-! calls one behind another -/
namespace OC
open PySem PySem.Spec PyProof.Rows L2 PySem.W
/-! ### behind some calls -/
def kAft (p : Int) (n : Nat) (kn : List (List Int)) (cs : List (Str × List Int)) : List (List Int) := cs.foldl (fun k c => plainR p n (k ++ [c.2])) kn
def hAft (p : Int) (n : Nat) (hs : List (Str × List (List Int))) (cs : List (Str × List Int)) : List (Str × List (List Int)) := cs.foldl (fun h c => heardH p n c.2 h) hs
theorem kAft_snoc {p : Int} {n : Nat} {kn : List (List Int)} {cs : List (Str × List Int)} {c : Str × List Int} : kAft p n kn (cs ++ [c]) = plainR p n (kAft p n kn cs ++ [c.2]) := by
  unfold kAft
  rw [List.foldl_append]
  rfl
theorem hAft_snoc {p : Int} {n : Nat} {hs : List (Str × List (List Int))} {cs : List (Str × List Int)} {c : Str × List Int} : hAft p n hs (cs ++ [c]) = heardH p n c.2 (hAft p n hs cs) := by
  unfold hAft
  rw [List.foldl_append]
  rfl
/-- how much is known behind some calls -/
def sAft (p : Int) (n : Nat) (kn : List (List Int)) (hs : List (Str × List (List Int))) (cs : List (Str × List Int)) : List Str → Int := sizeR p n (kAft p n kn cs) (hAft p n hs cs)
/-- calls of the group, each known to its hand behind those ahead, each leaves one call less -/
def StepsR (p : Int) (n : Nat) (kn : List (List Int)) (hs : List (Str × List (List Int))) (ms : List Str) (cs : List (Str × List Int)) : Prop := ∀ i x r, cs[i]? = some (x, r) →
  x ∈ ms ∧ RowsOk p n [r] ∧ hasR p n (roomR p n (kAft p n kn (cs.take i)) (hAft p n hs (cs.take i)) [x]) r = true ∧ fewR (sAft p n kn hs (cs.take (i + 1))) ms = fewR (sAft p n kn hs (cs.take i)) ms - 1
/-- a plan -/
structure PlanR (p : Int) (n : Nat) (kn : List (List Int)) (hs : List (Str × List (List Int))) (ms : List Str) (cs : List (Str × List Int)) : Prop where
  steps : StepsR p n kn hs ms cs
  len : (cs.length : Int) = fewR (sizeR p n kn hs) ms
  zero : fewR (sAft p n kn hs cs) ms = 0
/-! ### the callers one behind another -/
end OC
set_option Elab.async false
set_option linter.all false
set_option maxRecDepth 100000
set_option maxHeartbeats 4000000
/-! plans that hold; no plan is shorter -/
namespace OC
open PySem PySem.Spec PyProof.Rows L2 PySem.W
section
variable {p : Int} {n : Nat} {kn : List (List Int)} {hs : List (Str × List (List Int))} {ms : List Str} {y : Str} {row : List Int}
theorem one_le (S : Stand5 p n kn hs) {x : Str} (h : x ∈ ms) : sizeR p n kn hs [x] ≤ sizeR p n kn hs ms := size_mono S.toR fun y hy => by rw [List.mem_singleton.mp hy]; exact h
theorem few_zero (S : Stand5 p n kn hs) (nd : ms.Nodup) (l2 : 2 ≤ ms.length) : 0 ≤ fewR (sizeR p n kn hs) ms := (few_range (f := sizeR p n kn hs) (ms := ms) (fun q => size_pos S q) (fun q => size_le S q) nd l2 (fun q => size_mono S.toR fun y hy => (List.mem_filter.mp hy).1) (fun x hx => one_le S hx)).1
theorem one_of_few (S : Stand5 p n kn hs) (nd : ms.Nodup) (l2 : 2 ≤ ms.length) (h : fewR (sizeR p n kn hs) ms = 0) : ∀ x ∈ ms, sizeR p n kn hs [x] = sizeR p n kn hs ms := fun x hx => by
  have a := few_apart (f := sizeR p n kn hs) nd hx l2 (size_mono S.toR fun y hy => (List.mem_filter.mp hy).1)
  have b := one_le S hx
  omega
/-- a call that leaves one less is new to the listener -/
theorem call_new (S : Stand5 p n kn hs) (ok : RowsOk p n [row]) (few : fewR (sizeR p n (plainR p n (kn ++ [row])) (heardH p n row hs)) ms = fewR (sizeR p n kn hs) ms - 1) : hasR p n kn row = false := by
  cases e : hasR p n kn row with
  | false => rfl
  | true =>
    have : sizeR p n (plainR p n (kn ++ [row])) (heardH p n row hs) = sizeR p n kn hs := funext fun q => by
      rw [size_heard S ok q, if_pos e, if_pos (has_more S ok (q := []) (q' := q) (fun x hx => (nomatch hx)) (by rw [room_nil S]; exact e))]
      omega
    rw [this] at few
    omega
theorem size_call (S : Stand5 p n kn hs) (ok : RowsOk p n [row]) (my : y ∈ ms) (own : hasR p n (roomR p n kn hs [y]) row = true) (nw : hasR p n kn row = false) : sizeR p n (plainR p n (kn ++ [row])) (heardH p n row hs) ms = sizeR p n kn hs ms - 1 := by
  rw [size_heard S ok ms, nw, if_pos (has_more S ok (q := [y]) (fun x hx => by rw [List.mem_singleton.mp hx]; exact my) own)]
  simp
/-- a parting's bound falls by one at most -/
theorem bound_fall (S : Stand5 p n kn hs) (ok : RowsOk p n [row]) (my : y ∈ ms) (own : hasR p n (roomR p n kn hs [y]) row = true) (nw : hasR p n kn row = false) {P : List (List Str)} (mP : P ∈ partingsR ms) : boundG (sizeR p n kn hs) ms P - 1 ≤ boundG (sizeR p n (plainR p n (kn ++ [row])) (heardH p n row hs)) ms P := by
  have gt := (partings_mem.mp mP).2
  have os := splits_ok (partings_mem.mp mP).1
  have hm := size_call S ok my own nw
  have le : ∀ q : List Str, sizeR p n (plainR p n (kn ++ [row])) (heardH p n row hs) q ≤ sizeR p n kn hs q := fun q => by
    rw [size_heard S ok q, nw]
    split <;> simp
    omega
  have sum : ∀ Q : List (List Str), (Q.map (sizeR p n (plainR p n (kn ++ [row])) (heardH p n row hs))).sum ≤ (Q.map (sizeR p n kn hs)).sum ∧ ((∃ q ∈ Q, y ∈ q) → (Q.map (sizeR p n (plainR p n (kn ++ [row])) (heardH p n row hs))).sum ≤ (Q.map (sizeR p n kn hs)).sum - 1) := fun Q => by
    induction Q with
    | nil => exact ⟨Int.le_refl _, fun ⟨q, hq, _⟩ => (nomatch hq)⟩
    | cons a Q ih =>
      have la := le a
      simp only [List.map_cons, List.sum_cons]
      refine ⟨by omega, fun ⟨q, hq, yq⟩ => ?_⟩
      rcases List.mem_cons.mp hq with rfl | hq
      · have := size_call (ms := q) S ok yq own nw
        omega
      · have := ih.2 ⟨q, hq, yq⟩
        omega
  have sP := (sum P).2 (by
    have := os.pm.mem_iff.mpr my
    obtain ⟨q, hq, yq⟩ := List.mem_flatten.mp this
    exact ⟨q, hq, yq⟩)
  unfold boundG boundOf
  rw [List.length_map, List.length_map, hm]
  have := Int.ediv_le_ediv (show (0 : Int) < (P.length : Int) - 1 by omega) (show (P.map (sizeR p n (plainR p n (kn ++ [row])) (heardH p n row hs))).sum - (sizeR p n kn hs ms - 1) ≤ (P.map (sizeR p n kn hs)).sum - sizeR p n kn hs ms by omega)
  omega
end
section
variable {p : Int} {n : Nat} {kn : List (List Int)} {hs : List (Str × List (List Int))} {ms : List Str} {cs : List (Str × List Int)}
theorem take_snoc {i : Nat} {c : Str × List Int} (g : cs[i]? = some c) : cs.take (i + 1) = cs.take i ++ [c] := by
  rw [List.take_add_one, g]
  rfl
/-- what is told behind the first so many calls of a plan -/
structure AtR (p : Int) (n : Nat) (kn : List (List Int)) (hs : List (Str × List (List Int))) (ms : List Str) (cs : List (Str × List Int)) (i : Nat) : Prop where
  ok : Stand5 p n (kAft p n kn (cs.take i)) (hAft p n hs (cs.take i))
  few : fewR (sAft p n kn hs (cs.take i)) ms = (cs.length : Int) - i
  all : sAft p n kn hs (cs.take i) ms = sizeR p n kn hs ms - i
  bd : ∀ P ∈ partingsR ms, boundG (sizeR p n kn hs) ms P = fewR (sizeR p n kn hs) ms → boundG (sAft p n kn hs (cs.take i)) ms P = (cs.length : Int) - i
theorem PlanR.at (S : Stand5 p n kn hs) (h : PlanR p n kn hs ms cs) : ∀ i, i ≤ cs.length → AtR p n kn hs ms cs i
  | 0, _ => ⟨S, by
      show fewR (sizeR p n kn hs) ms = _
      rw [← h.len]
      omega, by
      show sizeR p n kn hs ms = _
      omega, fun P mP e => by
      show boundG (sizeR p n kn hs) ms P = _
      rw [e, ← h.len]
      omega⟩
  | i + 1, hi => by
    have ih := h.at S i (by omega)
    obtain ⟨x, r, g⟩ : ∃ x r, cs[i]? = some (x, r) := ⟨_, _, List.getElem?_eq_getElem (by omega)⟩
    obtain ⟨mx, ok, own, few⟩ := h.steps i x r g
    have e : sAft p n kn hs (cs.take (i + 1)) = sizeR p n (plainR p n (kAft p n kn (cs.take i) ++ [r])) (heardH p n r (hAft p n hs (cs.take i))) := by
      unfold sAft
      rw [take_snoc g, kAft_snoc, hAft_snoc]
    have e0 : sAft p n kn hs (cs.take i) = sizeR p n (kAft p n kn (cs.take i)) (hAft p n hs (cs.take i)) := rfl
    have f1 := ih.few
    have f2 := ih.all
    rw [e, e0] at few
    rw [e0] at f1 f2
    have nw := call_new ih.ok ok few
    have sz := size_call ih.ok ok mx own nw
    refine ⟨?_, ?_, ?_, fun P mP eP => ?_⟩
    · rw [take_snoc g, kAft_snoc, hAft_snoc]
      exact ih.ok.heard ok
    · rw [e, few]
      omega
    · rw [e, sz]
      omega
    · have b := ih.bd P mP eP
      rw [e0] at b
      have c := bound_fall ih.ok ok mx own nw mP
      have d := few_le (f := sAft p n kn hs (cs.take (i + 1))) mP
      rw [e] at d ⊢
      omega
end
end OC
set_option Elab.async false
set_option linter.all false
/-! texts sorted: a sorted choice of them is a part in their order -/
namespace OC
open PySem PySem.Spec PyProof.Rows L2
theorem pw_rising : ∀ (l : List Str) (p : Str), risingS p l = true → (p :: l).Pairwise (fun a b => a.cps.toList ≤ b.cps.toList)
  | [], p, _ => List.pairwise_singleton _ _
  | x :: r, p, h => by
    unfold risingS at h
    rw [Bool.and_eq_true, ltCps_eq] at h
    have h1 : p.cps.toList ≤ x.cps.toList := List.not_lt.mp (by simpa using h.1)
    have ih := pw_rising r x h.2
    refine List.pairwise_cons.mpr ⟨fun y hy => ?_, ih⟩
    rcases List.mem_cons.mp hy with rfl | hy
    · exact h1
    · exact List.le_trans h1 ((List.pairwise_cons.mp ih).1 y hy)
theorem pw_sorted : ∀ (l : List Str), sortedS l = true → l.Pairwise (fun a b => a.cps.toList ≤ b.cps.toList)
  | [], _ => .nil
  | x :: r, h => pw_rising r x h
end OC
set_option Elab.async false
set_option linter.all false
set_option maxRecDepth 100000
set_option maxHeartbeats 4000000
/-! defs whose keyword-only parameter is written; t.count(x) of a tuple of texts -/
namespace OC
open PySem PySem.Spec PyProof.Rows L2
structure OkK (P : Program) (w : World) (K : PySem.W.Frag) (mg : Str → Option Value) (base : Heap) (k : Nat) (x : Str) (ps : List Str) (n : Nat) (ks : List Str) (sp : Sp) : Prop where
  ex : ∃ (f : Addr) (fd : FuncData), FnOk P w K mg base CX0 k f fd ps sp ∧ mg x = some (.ref f) ∧ PySem.W.keepIn K (.ref f) = true ∧ KBn K fd ps n ks (fun us ws => us ++ ws) (fun vs zs => vs ++ zs)
section
variable {P : Program} {w : World} {K : PySem.W.Frag} {mg : Str → Option Value} {base : Heap}
theorem OkK.mono {x : Str} {ps : List Str} {n : Nat} {ks : List Str} {j k : Nat} {sp : Sp} (O : OkK P w K mg base j x ps n ks sp) (h : j ≤ k) : OkK P w K mg base k x ps n ks sp := by
  obtain ⟨f, fd, F, r⟩ := O.ex
  exact ⟨f, fd, F.mono h, r⟩
end
/-! ### t.count(x) -/
end OC
set_option Elab.async false
set_option linter.all false
/-! three hands: their partings in order, the least numbers of calls -/
namespace OC
open PySem PySem.Spec PyProof.Rows L2
open PySem.W
theorem lexS (x : Int ⊕ List Nat) (r t : List (Int ⊕ List Nat)) : PyProof.Rows.lexLt itemOrd (x :: r) (x :: t) = PyProof.Rows.lexLt itemOrd r t := lex_self (O := itemOrd) x r t
end OC
set_option Elab.async false
set_option linter.all false
/-! numbers of calls pushed along a map of names: the least number of calls of a group and of its image -/
namespace OC
open PySem PySem.Spec PyProof.Rows L2
theorem sum_nn {x : Str → Int} : ∀ {l : List Str}, (∀ a ∈ l, 0 ≤ x a) → 0 ≤ (l.map x).sum
  | [], _ => Int.le_refl _
  | a :: l, h => by
    rw [List.map_cons, List.sum_cons]
    have := h a List.mem_cons_self
    have := sum_nn (l := l) fun z hz => h z (List.mem_cons_of_mem _ hz)
    omega
theorem sumP_mono {x : Str → Int} {S T : Str → Bool} : ∀ {A : List Str}, (∀ a ∈ A, 0 ≤ x a) → (∀ a ∈ A, S a = true → T a = true) → sumP x A S ≤ sumP x A T
  | [], _, _ => Int.le_refl _
  | a :: A, h, st => by
    have ih := sumP_mono (S := S) (T := T) (A := A) (fun z hz => h z (List.mem_cons_of_mem _ hz)) fun z hz => st z (List.mem_cons_of_mem _ hz)
    have ha := h a List.mem_cons_self
    have hs := st a List.mem_cons_self
    unfold sumP at ih ⊢
    rw [List.filter_cons, List.filter_cons]
    cases h1 : S a with
    | true =>
      rw [hs h1, if_pos rfl, if_pos rfl, List.map_cons, List.sum_cons, List.map_cons, List.sum_cons]
      omega
    | false =>
      cases h2 : T a with
      | true =>
        rw [if_neg (by decide), if_pos rfl, List.map_cons, List.sum_cons]
        omega
      | false =>
        rw [if_neg (by decide), if_neg (by decide)]
        exact ih
theorem sumP_all {x : Str → Int} {A : List Str} : sumP x A (fun _ => true) = (A.map x).sum := by
  unfold sumP
  rw [List.filter_eq_self.mpr fun _ _ => rfl]
/-! ### a hand twice -/
section
variable {p : Int} {n : Nat} {kn : List (List Int)} {hs hg : List (Str × List (List Int))} {own fr : Str}
/-- hands and, besides, one hand's room under a further name -/
def CopyOf (hs hg : List (Str × List (List Int))) (own fr : Str) : Prop := ∀ (x : Str) (room : List (List Int)), (x, room) ∈ hg ↔ (x, room) ∈ hs ∨ (x = fr ∧ (own, room) ∈ hs)
theorem CopyOf.heard (C : CopyOf hs hg own fr) (row : List Int) : CopyOf (heardH p n row hs) (heardH p n row hg) own fr := fun x room => by
  unfold heardH
  constructor
  · intro h
    obtain ⟨⟨y, r⟩, m, e⟩ := List.mem_map.mp h
    cases e
    rcases (C y r).mp m with m | ⟨rfl, m⟩
    · exact .inl (List.mem_map.mpr ⟨(y, r), m, rfl⟩)
    · exact .inr ⟨rfl, List.mem_map.mpr ⟨(own, r), m, rfl⟩⟩
  · rintro (h | ⟨rfl, h⟩)
    · obtain ⟨⟨y, r⟩, m, e⟩ := List.mem_map.mp h
      cases e
      exact List.mem_map.mpr ⟨(y, r), (C y r).mpr (.inl m), rfl⟩
    · obtain ⟨⟨y, r⟩, m, e⟩ := List.mem_map.mp h
      cases e
      exact List.mem_map.mpr ⟨(x, r), (C x r).mpr (.inr ⟨rfl, m⟩), rfl⟩
end
end OC
set_option Elab.async false
set_option linter.all false
/-! hands sorted: their names rise -/
set_option Elab.async false
set_option linter.all false
/-! independent rows; a hand that knows two rows more, of which each other hand knows one sum -/
namespace OC
open PySem PySem.Spec PyProof.Rows L2
section
variable {p : Int} {n : Nat}
theorem len_app_le (F : Fld p) {xs : List (List Int)} (h1 : RowsOk p n xs) : ∀ {ys : List (List Int)}, RowsOk p n ys → (plainR p n (xs ++ ys)).length ≤ (plainR p n xs).length + ys.length := fun {ys} => by
  refine (List.reverse_reverse ys) ▸ ?_
  induction ys.reverse with
  | nil => intro _; simp
  | cons y l ih =>
    intro h2
    rw [List.reverse_cons] at h2 ⊢
    have ok1 : RowsOk p n l.reverse := fun r hr => h2 r (List.mem_append_left _ hr)
    have oky : RowsOk p n [y] := rowsOk_one (h2 y (List.mem_append_right _ List.mem_cons_self))
    rw [← List.append_assoc, plain_one_more F (rowsOk_app h1 ok1) oky, List.length_append]
    have := ih ok1
    simp only [List.length_cons, List.length_nil]
    split <;> omega
theorem len_le (F : Fld p) {ys : List (List Int)} (h : RowsOk p n ys) : (plainR p n ys).length ≤ ys.length := by
  have := len_app_le F (xs := []) (fun r hr => (nomatch hr)) h
  rw [plainR_nil] at this
  simpa using this
theorem free_left (F : Fld p) {xs ys : List (List Int)} (h1 : RowsOk p n xs) (h2 : RowsOk p n ys) (h : (plainR p n (xs ++ ys)).length = xs.length + ys.length) : (plainR p n xs).length = xs.length := by
  have := len_app_le F h1 h2
  have := len_le F h1
  omega
theorem back_row (pp : 2 ≤ p) {s : Int} : ∀ {x y : List Int}, x.length = y.length → (∀ a ∈ x, 0 ≤ a ∧ a < p) → plusR p (plusR p x y s) y ((p - s) % p) = x
  | [], [], _, _ => rfl
  | a :: x, b :: y, h, hx => by
    have ih := back_row pp (s := s) (x := x) (y := y) (by simpa using h) fun z hz => hx z (List.mem_cons_of_mem _ hz)
    unfold plusR at ih ⊢
    rw [List.zipWith_cons_cons, List.zipWith_cons_cons, ih]
    congr 1
    obtain ⟨a0, a1⟩ := hx a List.mem_cons_self
    have e1 := Int.emod_add_mul_ediv (a + s * b) p
    have e2 := Int.emod_add_mul_ediv (p - s) p
    generalize (a + s * b) % p = u at e1 ⊢
    generalize (a + s * b) / p = q1 at e1
    generalize (p - s) % p = v at e2 ⊢
    generalize (p - s) / p = q2 at e2
    have e : u + v * b = a + p * (b - q1 - q2 * b) := by grind
    rw [e, Int.add_mul_emod_self_left, Int.emod_eq_of_lt a0 a1]
theorem ok_pos {x : List Int} (h : RowsOk p n [x]) : x.length = n ∧ ∀ a ∈ x, 0 ≤ a ∧ a < p := h x List.mem_cons_self
theorem plus_okF (F : Fld p) {x y : List Int} {s : Int} (hx : RowsOk p n [x]) (hy : RowsOk p n [y]) : RowsOk p n [plusR p x y s] := rowsOk_one (by
  have := F.1
  obtain ⟨lx, _⟩ := ok_pos hx
  obtain ⟨ly, _⟩ := ok_pos hy
  refine ⟨by rw [plus_len (by omega), lx], fun a ha => ?_⟩
  unfold plusR at ha
  obtain ⟨i, hi⟩ := List.mem_iff_getElem?.mp ha
  rw [List.getElem?_zipWith] at hi
  cases h1 : x[i]? with
  | none => rw [h1] at hi; simp at hi
  | some u =>
    cases h2 : y[i]? with
    | none => rw [h1, h2] at hi; simp at hi
    | some v =>
      rw [h1, h2] at hi
      have e : (u + s * v) % p = a := Option.some.inj hi
      rw [← e]
      exact ⟨Int.emod_nonneg _ (by omega), Int.emod_lt_of_pos _ (by omega)⟩)
/-- one row more of a sum, or of the row itself -/
theorem in_back (F : Fld p) {T : List (List Int)} {x y : List Int} {s : Int} (hx : RowsOk p n [x]) (hy : RowsOk p n [y]) (h1 : InR p T (plusR p x y s)) (h2 : InR p T y) : InR p T x := by
  obtain ⟨lx, rx⟩ := ok_pos hx
  obtain ⟨ly, _⟩ := ok_pos hy
  have := InR.plus ((p - s) % p) (by rw [plus_len (by omega)]; omega) h1 h2
  rwa [back_row F.1 (by omega) rx] at this
/-- what of the sums stands fast: rows, made of the two, not made of the rest -/
theorem sums_fact (F : Fld p) {U : List (List Int)} {a b s : List Int} (hU : RowsOk p n U) (ha : RowsOk p n [a]) (hb : RowsOk p n [b]) (fr : (plainR p n (U ++ [a, b])).length = U.length + 2) (h : s = b ∨ ∃ k : Int, s = plusR p a b k) :
    RowsOk p n [s] ∧ InR p (U ++ [a, b]) s ∧ ¬ InR p U s := by
  obtain ⟨la, _⟩ := ok_pos ha
  obtain ⟨lb, _⟩ := ok_pos hb
  have ok2 : RowsOk p n [a, b] := fun r hr => by
    rcases List.mem_cons.mp hr with rfl | hr
    · exact ha _ List.mem_cons_self
    · exact hb r hr
  have ia : InR p (U ++ [a, b]) a := InR.mem (by simp)
  have ib : InR p (U ++ [a, b]) b := InR.mem (by simp)
  have nb : ¬ InR p U b := fun z => by
    have e : plainR p n (U ++ [a, b]) = plainR p n (U ++ [a]) := plain_same F (rowsOk_app hU ok2) (rowsOk_app hU ha) (fun r hr => by
      rcases List.mem_append.mp hr with hr | hr
      · exact InR.left (InR.mem hr)
      · rcases List.mem_cons.mp hr with rfl | hr
        · exact InR.mem (by simp)
        · rw [List.mem_singleton.mp hr]
          exact InR.left z) fun r hr => InR.mem (by
        rcases List.mem_append.mp hr with hr | hr
        · exact List.mem_append_left _ hr
        · rw [List.mem_singleton.mp hr]
          simp)
    have := len_le F (rowsOk_app hU ha)
    rw [← e, fr, List.length_append, List.length_singleton] at this
    omega
  have nk : ∀ k : Int, ¬ InR p U (plusR p a b k) := fun k z => by
    have ra : InR p (U ++ [b]) a := in_back F ha hb (InR.left z) (InR.mem (by simp))
    have e : plainR p n (U ++ [a, b]) = plainR p n (U ++ [b]) := plain_same F (rowsOk_app hU ok2) (rowsOk_app hU hb) (fun r hr => by
      rcases List.mem_append.mp hr with hr | hr
      · exact InR.left (InR.mem hr)
      · rcases List.mem_cons.mp hr with rfl | hr
        · exact ra
        · rw [List.mem_singleton.mp hr]
          exact InR.mem (by simp)) fun r hr => InR.mem (by
        rcases List.mem_append.mp hr with hr | hr
        · exact List.mem_append_left _ hr
        · rw [List.mem_singleton.mp hr]
          simp)
    have := len_le F (rowsOk_app hU hb)
    rw [← e, fr, List.length_append, List.length_singleton] at this
    omega
  rcases h with rfl | ⟨k, rfl⟩
  · exact ⟨hb, ib, nb⟩
  · exact ⟨plus_okF F ha hb, InR.plus k (by omega) ia ib, nk k⟩
/-- one hand knows two rows more than the rest, each other one a sum of the two -/
structure BestR (p : Int) (n : Nat) (kn : List (List Int)) (hs : List (Str × List (List Int))) (best : Str) (U : List (List Int)) (a b : List Int) : Prop where
  st : Stand5 p n kn hs
  okU : RowsOk p n U
  oka : RowsOk p n [a]
  okb : RowsOk p n [b]
  fr : (plainR p n (U ++ [a, b])).length = U.length + 2
  inn : best ∈ hs.map Prod.fst
  top : ∀ h ∈ hs, h.1 = best → h.2 = plainR p n (U ++ [a, b])
  low : ∀ h ∈ hs, h.1 ≠ best → ∃ s, (s = b ∨ ∃ k : Int, s = plusR p a b k) ∧ h.2 = plainR p n (U ++ [s])
section
variable {kn : List (List Int)} {hs : List (Str × List (List Int))} {best : Str} {U : List (List Int)} {a b : List Int}
theorem BestR.ok2 (B : BestR p n kn hs best U a b) : RowsOk p n (U ++ [a, b]) := rowsOk_app B.okU fun r hr => by
  rcases List.mem_cons.mp hr with rfl | hr
  · exact B.oka _ List.mem_cons_self
  · exact B.okb r hr
theorem BestR.room (B : BestR p n kn hs best U a b) {h : Str × List (List Int)} (mh : h ∈ hs) : roomR p n kn hs [h.1] = h.2 := B.st.own mh
/-- all know what the best hand knows -/
theorem BestR.all (B : BestR p n kn hs best U a b) {h : Str × List (List Int)} (mh : h ∈ hs) : ∀ r ∈ h.2, InR p (U ++ [a, b]) r := fun r hr => by
  have F := B.st.fld
  by_cases e : h.1 = best
  · rw [B.top h mh e] at hr
    exact (InR.plain F B.ok2).mp (InR.mem hr)
  · obtain ⟨s, hs', e2⟩ := B.low h mh e
    obtain ⟨os, is, _⟩ := sums_fact F B.okU B.oka B.okb B.fr hs'
    rw [e2] at hr
    refine InR.mono (fun z hz => ?_) ((InR.plain F (rowsOk_app B.okU os)).mp (InR.mem hr))
    rcases List.mem_append.mp hz with hz | hz
    · exact InR.left (InR.mem hz)
    · rw [List.mem_singleton.mp hz]
      exact is
theorem BestR.whole (B : BestR p n kn hs best U a b) {q : List Str} (mb : best ∈ q) : roomR p n kn hs q = plainR p n (U ++ [a, b]) := by
  have F := B.st.fld
  obtain ⟨h, mh, e⟩ := List.mem_map.mp B.inn
  have et := B.top h mh e
  refine plain_same F (room_rows B.st q) B.ok2 (fun r hr => ?_) fun r hr => ?_
  · rcases List.mem_append.mp hr with hr | hr
    · exact InR.mono (fun z hz => B.all mh z hz) (B.st.inn h mh r hr)
    · obtain ⟨h', mh', _, mr⟩ := sel_mem hr
      exact B.all mh' r mr
  · have i1 : InR p h.2 r := by
      rw [et]
      exact (InR.plain F B.ok2).mpr (InR.mem hr)
    refine InR.mono (fun z hz => InR.mem (List.mem_append_right _ (mem_sel mh (by rw [e]; exact mb) hz))) i1
theorem BestR.size_top (B : BestR p n kn hs best U a b) {q : List Str} (mb : best ∈ q) : sizeR p n kn hs q = (U.length : Int) + 2 - kn.length := by
  have := B.whole mb
  unfold roomR at this
  unfold sizeR
  rw [this, B.fr]
  rfl
theorem BestR.size_low (B : BestR p n kn hs best U a b) {x : Str} (mx : x ∈ hs.map Prod.fst) (ne : x ≠ best) : sizeR p n kn hs [x] = (U.length : Int) + 1 - kn.length := by
  have F := B.st.fld
  obtain ⟨h, mh, rfl⟩ := List.mem_map.mp mx
  obtain ⟨s, hs', e2⟩ := B.low h mh ne
  obtain ⟨os, _, ns⟩ := sums_fact F B.okU B.oka B.okb B.fr hs'
  have r := B.room mh
  unfold roomR at r
  unfold sizeR
  have lU : (plainR p n U).length = U.length := free_left F B.okU (ys := [a, b]) (fun r hr => B.ok2 r (List.mem_append_right _ hr)) B.fr
  have hf : hasR p n U s = false := by
    cases hh : hasR p n U s with
    | false => rfl
    | true => exact absurd ((hasR_in F B.okU os).mp hh) ns
  rw [r, e2, plain_one_more F B.okU os, hf, lU]
  simp
variable {ms : List Str}
theorem BestR.lack (B : BestR p n kn hs best U a b) {q : List Str} (hq : ∃ x ∈ q, x ∈ hs.map Prod.fst) : (U.length : Int) + 1 - kn.length ≤ sizeR p n kn hs q := by
  obtain ⟨x, mx, mh⟩ := hq
  have m := size_mono B.st.toR (ns := [x]) (ms := q) fun y hy => by rw [List.mem_singleton.mp hy]; exact mx
  by_cases e : x = best
  · have := B.size_top (q := q) (by rw [← e]; exact mx)
    omega
  · have := B.size_low mh e
    omega
/-- one call by the best hand is enough -/
theorem BestR.feas (B : BestR p n kn hs best U a b) (nd : ms.Nodup) (mb : best ∈ ms) (sub : ms.Sublist (hs.map Prod.fst)) : firstW ms (ms.map fun x => if x = best then 1 else 0) (wantsR (sizeR p n kn hs) ms) = none := by
  refine firstW_of fun w hw => ?_
  obtain ⟨q, mq, rfl⟩ := List.mem_map.mp hw
  show sizeR p n kn hs ms - sizeR p n kn hs (restG ms q) ≤ comeR ms (ms.map fun x => if x = best then 1 else 0) q
  rw [come_map, B.size_top mb]
  by_cases hq : best ∈ q
  · have one : sumP (fun x => if x = best then 1 else 0) ms (fun z => decide (z = best)) ≤ sumP (fun x => if x = best then 1 else 0) ms fun z => decide (z ∈ q) := sumP_mono (fun a _ => by split <;> decide) fun a _ h => decide_eq_true (by rw [of_decide_eq_true h]; exact hq)
    rw [sumP_one nd mb, if_pos rfl] at one
    obtain ⟨y, my⟩ := lesser_out nd mq
    have := B.lack (q := restG ms q) ⟨y, my, sub.subset (rest_mem.mp my).1⟩
    omega
  · rw [B.size_top (rest_mem.mpr ⟨mb, hq⟩)]
    have : 0 ≤ sumP (fun x => if x = best then 1 else 0) ms fun z => decide (z ∈ q) := by
      unfold sumP
      exact sum_nn fun a _ => by split <;> decide
    omega
theorem BestR.few (B : BestR p n kn hs best U a b) (nd : ms.Nodup) (l2 : 2 ≤ ms.length) (mb : best ∈ ms) (sub : ms.Sublist (hs.map Prod.fst)) (ot : ∃ y ∈ ms, y ≠ best) : fewR (sizeR p n kn hs) ms = 1 := by
  have r0 := few_zero B.st nd l2
  refine Int.le_antisymm ?_ ?_
  · have h := least_low nd l2 (List.length_map _).symm (B.feas nd mb sub)
    have e : (ms.map fun x => if x = best then (1 : Int) else 0).sum = 1 := by
      have := sumP_one (x := fun x => if x = best then (1 : Int) else 0) nd mb
      rw [if_pos rfl] at this
      have e2 : sumP (fun x => if x = best then (1 : Int) else 0) ms (fun z => decide (z = best)) = (ms.map fun x => if x = best then (1 : Int) else 0).sum := by
        rw [← sumP_all]
        unfold sumP
        clear this h B sub ot r0 mb l2 nd
        induction ms with
        | nil => rfl
        | cons m ms ih =>
          by_cases e : m = best
          · simp [e] at ih ⊢
            exact ih
          · simp [e] at ih ⊢
            exact ih
      omega
    omega
  · by_cases h : 1 ≤ fewR (sizeR p n kn hs) ms
    · exact h
    · have := one_of_few B.st nd l2 (by omega)
      obtain ⟨y, my, ne⟩ := ot
      have h1 := this y my
      rw [B.size_low (sub.subset my) ne, B.size_top mb] at h1
      omega
end
end
end OC
set_option Elab.async false
set_option linter.all false
set_option maxRecDepth 100000
set_option maxHeartbeats 4000000
/-! any thing == a text; any thing in a tuple of texts; t != () -/
namespace OC
open PySem PySem.Spec PyProof.Rows L2
open PySem.SeqAt
/-- of a known kind -/
inductive AnyT (K : PySem.W.Frag) (H : Hp) : V → Prop
  | non : AnyT K H .non
  | bl (b : Bool) : AnyT K H (.bl b)
  | int (i : Int) : AnyT K H (.int i)
  | str (x : Str) : AnyT K H (.str x)
  | lst {a : Addr} {xs : List V} : SqL K H a xs → AnyT K H (.ref a)
  | tup {a : Addr} {xs : List V} : SqT K H a xs → AnyT K H (.ref a)
  | dct {a : Addr} {kvs : List (L2.Key × V)} : H a = some (.dK kvs) → AnyT K H (.ref a)
theorem Rep.any {K : PySem.W.Frag} {H : Hp} {bad : Addr → Prop} {v : V} {d : PyData} (r : Rep K H bad v d) : AnyT K H v := by
  cases r with
  | non => exact .non
  | bl b => exact .bl b
  | int i => exact .int i
  | str x => exact .str x
  | lst h _ _ => exact .lst (.inl (.inl h))
  | tup h _ => exact .tup h
  | dct h _ => exact .dct h
end OC
set_option Elab.async false
set_option linter.all false
set_option maxRecDepth 100000
set_option maxHeartbeats 4000000
/-! things that nest, with weights -/
namespace OC
open PySem PySem.Spec PyProof.Rows L2
mutual
/-- numbers to 10 ^ 29 and g, no more than g items, signs that repr shows, no dict but the empty one -/
def nz (g : Nat) : PyData → Bool
  | .none => true
  | .bool _ => true
  | .int i => decide (i.natAbs ≤ 10 ^ 29 + g)
  | .str x => x.cps.toList.all fun c => decide (c < 1000000)
  | .list ds => decide (ds.length ≤ g) && nzAll g ds
  | .tuple ds => decide (ds.length ≤ g) && nzAll g ds
  | .dict ds => ds.isEmpty
def nzAll (g : Nat) : List PyData → Bool
  | [] => true
  | d :: ds => nz g d && nzAll g ds
end
mutual
/-- no less than the signs of repr -/
def wt : PyData → Nat
  | .none => 50
  | .bool _ => 50
  | .int _ => 50
  | .str x => 10 * x.length + 50
  | .list ds => wtAll ds + 50
  | .tuple ds => wtAll ds + 50
  | .dict _ => 50
def wtAll : List PyData → Nat
  | [] => 0
  | d :: ds => wt d + 2 + wtAll ds
end
theorem nzAll_iff {g : Nat} : ∀ {ds : List PyData}, nzAll g ds = true ↔ ∀ d ∈ ds, nz g d = true
  | [] => by simp [nzAll]
  | d :: ds => by simp only [nzAll, Bool.and_eq_true, nzAll_iff (ds := ds), List.forall_mem_cons]
theorem str_shown (x : Str) (h : (x.cps.toList.all fun c => decide (c < 1000000)) = true) : (PyData.str x).shown.length ≤ 10 * x.length + 2 := by
  simp only [PyData.shown]
  exact PySem.StrLaws.reprText_len x fun c hc => Nat.lt_of_lt_of_le (of_decide_eq_true (List.all_eq_true.mp h c hc)) (by decide)
mutual
theorem nz_fit {g : Nat} (hg : g ≤ 10 ^ 30) : ∀ (d : PyData), nz g d = true → d.shown.length ≤ wt d ∧ d.showable = true
  | .none, _ => ⟨by decide +kernel, by decide +kernel⟩
  | .bool b, _ => by cases b <;> exact ⟨by decide +kernel, by decide +kernel⟩
  | .int i, h => by
    have := fit_int (i := i) (Nat.lt_of_le_of_lt (of_decide_eq_true (by simpa only [nz] using h)) (by omega))
    exact ⟨this.len, this.sh⟩
  | .str x, h => ⟨by rw [wt]; exact Nat.le_trans (str_shown x (by simpa only [nz] using h)) (by omega), by simp [PyData.showable]⟩
  | .list ds, h => by
    obtain ⟨h1, h2⟩ := nz_fitAll hg ds (by simp only [nz, Bool.and_eq_true] at h; exact h.2)
    refine ⟨?_, by simp only [PyData.showable]; exact h2⟩
    simp only [PyData.shown]
    refine Nat.le_trans (listText_len_le _) ?_
    rw [shownAll_map, List.length_map, wt]
    have := h1
    omega
  | .tuple ds, h => by
    obtain ⟨h1, h2⟩ := nz_fitAll hg ds (by simp only [nz, Bool.and_eq_true] at h; exact h.2)
    refine ⟨?_, by simp only [PyData.showable]; exact h2⟩
    simp only [PyData.shown]
    refine Nat.le_trans (tupleText_len_le _) ?_
    rw [shownAll_map, List.length_map, wt]
    have := h1
    omega
  | .dict ds, h => by
    cases ds with
    | nil => exact ⟨by decide +kernel, by decide +kernel⟩
    | cons a b => simp [nz] at h
theorem nz_fitAll {g : Nat} (hg : g ≤ 10 ^ 30) : ∀ (ds : List PyData), nzAll g ds = true → ((ds.map PyData.shown).map (·.length)).sum + 2 * ds.length ≤ wtAll ds ∧ PyData.showableAll ds = true
  | [], _ => ⟨by simp [wtAll], by simp [PyData.showableAll]⟩
  | d :: ds, h => by
    have h' : nz g d = true ∧ nzAll g ds = true := by simpa [nzAll] using h
    obtain ⟨a1, a2⟩ := nz_fit hg d h'.1
    obtain ⟨b1, b2⟩ := nz_fitAll hg ds h'.2
    refine ⟨?_, by simp [PyData.showableAll, a2, b2]⟩
    rw [List.map_cons, List.map_cons, List.sum_cons, List.length_cons, wtAll]
    omega
end
/-- a thing's weight, depth and numbers -/
structure Thg (g B k : Nat) (d : PyData) : Prop where
  n : nz g d = true
  w : wt d ≤ B
  k : d.depth ≤ k
theorem Thg.fit {g B k : Nat} {d : PyData} (h : Thg g B k d) (hg : g ≤ 10 ^ 30) : FitZ B k d := by
  obtain ⟨h1, h2⟩ := nz_fit hg d h.n
  exact ⟨Nat.le_trans h1 h.w, h2, h.k⟩
mutual
theorem nz_mono {g g' : Nat} (hg : g ≤ g') : ∀ (d : PyData), nz g d = true → nz g' d = true
  | .none, _ => by simp [nz]
  | .bool _, _ => by simp [nz]
  | .int i, h => by
    have : i.natAbs ≤ 10 ^ 29 + g := by simpa only [nz, decide_eq_true_eq] using h
    simp only [nz]
    exact decide_eq_true (by omega)
  | .str x, h => by simpa [nz] using h
  | .list ds, h => by
    simp only [nz, Bool.and_eq_true, decide_eq_true_eq] at h ⊢
    exact ⟨Nat.le_trans h.1 hg, nzAll_mono hg ds h.2⟩
  | .tuple ds, h => by
    simp only [nz, Bool.and_eq_true, decide_eq_true_eq] at h ⊢
    exact ⟨Nat.le_trans h.1 hg, nzAll_mono hg ds h.2⟩
  | .dict ds, h => by simpa [nz] using h
theorem nzAll_mono {g g' : Nat} (hg : g ≤ g') : ∀ (ds : List PyData), nzAll g ds = true → nzAll g' ds = true
  | [], _ => by simp [nzAll]
  | d :: ds, h => by
    have h' : nz g d = true ∧ nzAll g ds = true := by simpa [nzAll] using h
    simp only [nzAll, Bool.and_eq_true]
    exact ⟨nz_mono hg d h'.1, nzAll_mono hg ds h'.2⟩
end
theorem Thg.mono {g g' B B' k k' : Nat} {d : PyData} (h : Thg g B k d) (hg : g ≤ g') (hB : B ≤ B') (hk : k ≤ k') : Thg g' B' k' d := ⟨nz_mono hg d h.n, Nat.le_trans h.w hB, Nat.le_trans h.k hk⟩
theorem depth_all {k : Nat} : ∀ {ds : List PyData}, PyData.depthAll ds ≤ k ↔ ∀ d ∈ ds, d.depth ≤ k
  | [] => by simp [PyData.depthAll]
  | d :: ds => by
    simp only [PyData.depthAll, List.forall_mem_cons, ← depth_all (ds := ds)]
    omega
theorem Thg.tup {g B k : Nat} {ds : List PyData} (h : Thg g B k (.tuple ds)) : (∀ d ∈ ds, nz g d = true) ∧ wtAll ds + 50 ≤ B ∧ ∃ k', k = k' + 1 ∧ ∀ d ∈ ds, d.depth ≤ k' := by
  refine ⟨nzAll_iff.mp (by have := h.n; simp only [nz, Bool.and_eq_true] at this; exact this.2), by have := h.w; rw [wt] at this; exact this, ?_⟩
  have := h.k
  simp only [PyData.depth] at this
  cases k with
  | zero => omega
  | succ k => exact ⟨k, rfl, depth_all.mp (by omega)⟩
end OC
set_option Elab.async false
set_option linter.all false
set_option maxRecDepth 100000
set_option maxHeartbeats 4000000
/-! rising things; partings and things that are none -/
namespace OC
open PySem PySem.W PySem.Spec PyProof.Rows L2
def rLtD (K : PySem.W.Frag) : R2 := fun x y H Q => ∃ d e, Dp K H x d ∧ Dp K H y e ∧ alike d e = true ∧ d ≠ .none ∧ d.depth ≤ 60 ∧ Q (.bl (dataLt d e)) H
theorem op_ltD {X : Cx} (hu : X.A.units + 64 < cLine) : OpR X (compareOp .Lt) (rLtD X.K) := by
  intro pins s σ H x y v u Q I rx ry h
  obtain ⟨d, e, hd, he, al, ne, dp, q⟩ := h
  obtain ⟨as, r1⟩ := Dp.reads I d x v hd rx
  obtain ⟨bs, r2⟩ := Dp.reads I e y u he ry
  exact lt_data r1 r2 al ne (by omega) ⟨.bl _, H, I, rfl, q⟩
/-- each less than the next -/
def risD (ds : List PyData) : Bool := (List.zipWith dataLt ds (ds.drop 1)).all id
theorem cut1 (xs : List V) : cutV xs (some 1) none = xs.drop 1 := by
  cases xs with
  | nil => unfold cutV; simp
  | cons x xs => exact cut_from (by decide) (by simp; omega)
end OC
set_option Elab.async false
set_option linter.all false
set_option maxRecDepth 100000
set_option maxHeartbeats 2000000
/-! classes of errors of one's own, by name; a caught one asked after; a def that catches what a lambda raises -/
namespace OC
open PySem PySem.Spec PyProof.Rows L2
/-- where the class of this name stands -/
def adr (mg : Str → Option Value) (x : Str) : Addr := match mg x with | some (.ref a) => a | _ => 0
theorem adr_of {mg : Str → Option Value} {x : Str} {C : Addr} (h : mg x = some (.ref C)) : adr mg x = C := by
  unfold adr
  rw [h]
end OC
set_option Elab.async false
set_option linter.all false
set_option maxRecDepth 100000
set_option maxHeartbeats 4000000
/-! what a parting is: parts that rise, their names all of the group -/
namespace OC
open PySem PySem.Spec PyProof.Rows L2 PySem.W
def sl (a b : Str) : Prop := a.cps.toList < b.cps.toList
theorem sl_trans {a b c : Str} (h1 : sl a b) (h2 : sl b c) : sl a c := List.lt_trans h1 h2
theorem sl_irr (a : Str) : ¬ sl a a := List.lt_irrefl _
theorem sl_asym {a b : Str} (h : sl a b) : ¬ sl b a := fun z => sl_irr a (sl_trans h z)
theorem strict_ext {α : Type} {R : α → α → Prop} (irr : ∀ a, ¬ R a a) (as : ∀ a b, R a b → ¬ R b a) : ∀ {l m : List α}, l.Pairwise R → m.Pairwise R → (∀ x, x ∈ l ↔ x ∈ m) → l = m
  | [], m, _, _, h => by
    cases m with
    | nil => rfl
    | cons b m => exact absurd ((h b).mpr List.mem_cons_self) (by simp)
  | a :: l, [], _, _, h => absurd ((h a).mp List.mem_cons_self) (by simp)
  | a :: l, b :: m, h1, h2, h => by
    obtain ⟨p1, q1⟩ := List.pairwise_cons.mp h1
    obtain ⟨p2, q2⟩ := List.pairwise_cons.mp h2
    have e : a = b := by
      rcases List.mem_cons.mp ((h a).mp List.mem_cons_self) with e | ma
      · exact e
      · rcases List.mem_cons.mp ((h b).mpr List.mem_cons_self) with e | mb
        · exact e.symm
        · exact absurd (p1 b mb) (as _ _ (p2 a ma))
    subst e
    have := strict_ext irr as q1 q2 fun x => ⟨fun hx => by
      rcases List.mem_cons.mp ((h x).mp (List.mem_cons_of_mem _ hx)) with e | hm
      · subst e
        exact absurd (p1 x hx) (irr x)
      · exact hm, fun hx => by
      rcases List.mem_cons.mp ((h x).mpr (List.mem_cons_of_mem _ hx)) with e | hm
      · subst e
        exact absurd (p2 x hx) (irr x)
      · exact hm⟩
    rw [this]
theorem ris_cons2 (a b : PyData) (l : List PyData) : risD (a :: b :: l) = (dataLt a b && risD (b :: l)) := by
  unfold risD
  simp
theorem ris_iff {α : Type} {f : α → PyData} {R : α → α → Prop} (tr : ∀ a b c, R a b → R b c → R a c) : ∀ {l : List α}, (l.Pairwise fun a b => (dataLt (f a) (f b) = true ↔ R a b)) → (risD (l.map f) = true ↔ l.Pairwise R)
  | [], _ => by simp [risD]
  | [a], _ => by simp [risD]
  | a :: b :: l, h => by
    obtain ⟨h1, h2⟩ := List.pairwise_cons.mp h
    have ih := ris_iff tr h2
    rw [List.map_cons] at ih
    rw [List.map_cons, List.map_cons, ris_cons2, Bool.and_eq_true, h1 b List.mem_cons_self, ih]
    constructor
    · rintro ⟨x, y⟩
      refine List.pairwise_cons.mpr ⟨fun c hc => ?_, y⟩
      rcases List.mem_cons.mp hc with rfl | hc
      · exact x
      · exact tr _ _ _ x ((List.pairwise_cons.mp y).1 c hc)
    · intro z
      obtain ⟨x, y⟩ := List.pairwise_cons.mp z
      exact ⟨x b List.mem_cons_self, y⟩
theorem pw_all {α : Type} {R : α → α → Prop} (h : ∀ a b, R a b) : ∀ l : List α, l.Pairwise R
  | [] => .nil
  | a :: l => .cons (fun b _ => h a b) (pw_all h l)
theorem lt_strs (a b : Str) : dataLt (.str a) (.str b) = true ↔ sl a b := by
  rw [dataLt_str, decide_eq_true_iff]
  exact Iff.rfl
theorem ris_strs (q : List Str) : risD (q.map PyData.str) = true ↔ q.Pairwise sl :=
  ris_iff (R := sl) (fun _ _ _ => sl_trans) (pw_all lt_strs q)
end OC
set_option Elab.async false
set_option linter.all false
set_option maxRecDepth 100000
set_option maxHeartbeats 4000000
/-! classes of one's own and their methods, by name -/
namespace OC
open PySem PySem.Spec PyProof.Rows L2
structure ClsN (K : PySem.W.Frag) (mg : Str → Option Value) (x : Str) : Prop where
  g : mg x = some (.ref (adr mg x))
  cl : Cls K (adr mg x)
  mkk : PySem.W.makesIn K (adr mg x) = true
  kp : PySem.W.keepIn K (.ref (adr mg x)) = true
/-- a method of the class c: m, by its full name q -/
structure DfM (K : PySem.W.Frag) (mg : Str → Option Value) (c m q : Str) (st : Stmt) (ps : List Str) (dvs : List V) : Prop where
  ex : ∃ (f : Addr) (fd : FuncData) (ds : List Value), Fun K m q st f fd ∧ Vals dvs ds ∧ Binds K fd ps ds ∧ Meth K (adr mg c) m f
structure OkM (P : Program) (w : World) (K : PySem.W.Frag) (mg : Str → Option Value) (base : Heap) (k : Nat) (c m : Str) (ps : List Str) (dvs : List V) (sp : Sp) : Prop where
  ex : ∃ (f : Addr) (fd : FuncData) (ds : List Value), FnOk P w K mg base CX0 k f fd ps sp ∧ Meth K (adr mg c) m f ∧ Vals dvs ds ∧ Binds K fd ps ds
section
variable {P : Program} {w : World} {K : PySem.W.Frag} {mg : Str → Option Value} {base : Heap}
theorem DfM.ok {c m q : Str} {st : Stmt} {N ps : List Str} {dvs : List V} {k : Nat} {sp : Sp} (D : DfM K mg c m q st ps dvs) (S : FnScope N ps (defScope st)) (len : ∀ vs H Q E, sp vs H Q E → vs.length = ps.length)
    (hbody : ∀ (f : Addr) (cdv : Value) (A : Around) (outer : List Env) (s : Shared) (H : Hp) (vs : List V) (Q : VK) (E : XK), Room k (A.deeper (envOfC q (defScope st) s.heap.objs.size f cdv)) → sp vs H Q E →
      ∃ t, PSs (cxOf CX0 P w K mg base N q (defScope st) f cdv A outer s H E).nox (defBody st) t ∧ t { nx := fun _ H' => Q .non H', rt := Q } (start N vs) H) : OkM P w K mg base (k + 1) c m ps dvs sp := by
  obtain ⟨f, fd, ds, F, v, b, g⟩ := D.ex
  exact ⟨f, fd, ds, F.ok S len (hbody f), g, v, b⟩
theorem OkM.mono {c m : Str} {ps : List Str} {dvs : List V} {j k : Nat} {sp : Sp} (O : OkM P w K mg base j c m ps dvs sp) (h : j ≤ k) : OkM P w K mg base k c m ps dvs sp := by
  obtain ⟨f, fd, ds, F, r⟩ := O.ex
  exact ⟨f, fd, ds, F.mono h, r⟩
end
section
variable {X : Cx} {c m : Str} {ps : List Str} {dvs : List V} {k : Nat} {sp : Sp}
/-- o.m(e, ..) -/
theorem pe_methO {pl : Sem Bool} {o e : Expr} {es : List Expr} {ta : TE} {t : TA} {apos pos : Pos} (O : OkM X.prog X.w X.K X.mg X.base k c m ps dvs sp) (C : ClsN X.K X.mg c) (hr : Room k X.A) (he : PE X o ta) (ha : PA X (e :: es) t)
    (hst : starEach (e :: es) X.env = (false, eval e X.env) :: starEach es X.env := by rfl) (hpl : (backTo pos (starEach es X.env)).any (·.1) = false := by rfl)
    (ht : eval (.Call (.Attribute o m apos) (e :: es) [] pos) X.env = (do
      let ov ← eval o X.env
      standAt apos.atName
      let (f, first) ← holding [ov] (getMethod ov m pl)
      callWith pos f first (backTo pos (starEach (e :: es) X.env)) (backToKw pos (keywordEach [] X.env))) := by rfl) :
    PE X (.Call (.Attribute o m apos) (e :: es) [] pos) (tMeth (adr X.mg c) m sp dvs E0 ta t) := by
  obtain ⟨f, fd, ds, F, g, v, b⟩ := O.ex
  exact pe_meth he C.cl g F hr b v pass0 ha hst hpl ht
/-- o.m() -/
theorem pe_methO0 {pl : Sem Bool} {o : Expr} {ta : TE} {apos pos : Pos} (O : OkM X.prog X.w X.K X.mg X.base k c m ps dvs sp) (C : ClsN X.K X.mg c) (hr : Room k X.A) (he : PE X o ta)
    (ht : eval (.Call (.Attribute o m apos) [] [] pos) X.env = (do
      let ov ← eval o X.env
      standAt apos.atName
      let (f, first) ← holding [ov] (getMethod ov m pl)
      callWith pos f first (backTo pos (starEach [] X.env)) (backToKw pos (keywordEach [] X.env))) := by rfl) :
    PE X (.Call (.Attribute o m apos) [] [] pos) (tMeth (adr X.mg c) m sp dvs E0 ta tNil) := by
  obtain ⟨f, fd, ds, F, g, v, b⟩ := O.ex
  exact pe_meth0 he C.cl g F hr b v pass0 ht
/-- C(e, ..) -/
theorem pe_makeO {e : Expr} {es : List Expr} {t : TA} {p pos : Pos} (O : OkM X.prog X.w X.K X.mg X.base k c "__init__" ps dvs sp) (C : ClsN X.K X.mg c) (hr : Room (k + 1) X.A) (hg : Gl X c) (ha : PA X (e :: es) t) (hdb : (c == ("__debug__" : Str)) = false := by decide)
    (he : starEach (e :: es) X.env = (false, eval e X.env) :: starEach es X.env := by rfl) (hpl : (backTo pos (starEach es X.env)).any (·.1) = false := by rfl) :
    PE X (.Call (.Name c p) (e :: es) [] pos) (tMake (adr X.mg c) sp dvs E0 t) := by
  obtain ⟨f, fd, ds, F, g, v, b⟩ := O.ex
  exact pe_make ⟨C.mkk, g.at_, g.fn, C.kp⟩ F hr hg C.g b v pass0 ha hdb he hpl
end
/-- a method whose keyword-only parameters are written -/
structure OkMK (P : Program) (w : World) (K : PySem.W.Frag) (mg : Str → Option Value) (base : Heap) (k : Nat) (c m : Str) (ps : List Str) (n : Nat) (ks : List Str) (sp : Sp) : Prop where
  ex : ∃ (f : Addr) (fd : FuncData), FnOk P w K mg base CX0 k f fd ps sp ∧ Meth K (adr mg c) m f ∧ KBn K fd ps n ks (fun us ws => us ++ ws) (fun vs zs => vs ++ zs)
section
variable {P : Program} {w : World} {K : PySem.W.Frag} {mg : Str → Option Value} {base : Heap}
theorem OkMK.mono {c m : Str} {ps : List Str} {n : Nat} {ks : List Str} {j k : Nat} {sp : Sp} (O : OkMK P w K mg base j c m ps n ks sp) (h : j ≤ k) : OkMK P w K mg base k c m ps n ks sp := by
  obtain ⟨f, fd, F, r⟩ := O.ex
  exact ⟨f, fd, F.mono h, r⟩
end
/-- x(e, .., *y), x a local name that holds a def -/
structure HeldR (P : Program) (w : World) (K : PySem.W.Frag) (mg : Str → Option Value) (base : Heap) (k : Nat) (f : Addr) (sp : Sp) : Prop where
  ex : FnR P w K mg base CX0 k f sp
  kp : PySem.W.keepIn K (.ref f) = true
def tCallLS (P : Program) (w : World) (K : PySem.W.Frag) (mg : Str → Option Value) (base : Heap) (i k : Nat) (t : TA) : TE := fun σ H Q => ∃ (f : Addr) (sp : Sp), σ[i]? = some (some (.ref f)) ∧ HeldR P w K mg base k f sp ∧ t σ H fun vs H1 => sp vs H1 Q E0
section
variable {X : Cx} {k i : Nat} {x : Str} {e : Expr} {es : List Expr} {t : TA} {p pos : Pos}
theorem pe_callLS (hr : Room k X.A) (hN : X.N[i]? = some x) (hv : Vis X.env.scope x) (ha : PA X (e :: es) t)
    (hdb : (x == ("__debug__" : Str)) = false := by decide) (hcd : (x == ("__classdict__" : Str)) = false := by decide)
    (he : starEach (e :: es) X.env = (false, eval e X.env) :: starEach es X.env := by rfl) (hst : (backTo pos (starEach es X.env)).any (·.1) = true := by rfl) :
    PE X (.Call (.Name x p) (e :: es) [] pos) (tCallLS X.prog X.w X.K X.mg X.base i k t) := by
  refine ⟨fun pins s σ H Q I h => ?_⟩
  obtain ⟨f, sp, hs, ⟨F, hk⟩, ht⟩ := h
  refine wpAny_Call_Name_kw (thn ((pe_var (pos := p) hN hv hdb hcd).run pins s σ H (fun v H1 => v = .ref f ∧ H1 = H) I ⟨.ref f, hs, rfl, rfl⟩) fun u s1 ⟨v, H1, I1, r1, q1⟩ => ?_)
  obtain ⟨rfl, rfl⟩ := q1
  cases r1
  refine PySem.W.callWith_S2 (h₀ := X.base) I.ok.mod.kin hk (thn (ha.run pos pins s1 σ _ _ I1 ht) fun us s2 ⟨vs, H2, I2, r, q⟩ => ⟨I2.kIn, ?_⟩) he hst
  exact wpAny_call (run_fnR F hr pass0 I2 r q)
end
theorem OkM.held {P : Program} {w : World} {K : PySem.W.Frag} {mg : Str → Option Value} {base : Heap} {k : Nat} {x : Str} {ps : List Str} {sp : Sp} (O : Ok P w K mg base k x ps sp) : ∃ f, mg x = some (.ref f) ∧ HeldR P w K mg base k f sp := by
  obtain ⟨f, fd, F, g, kp, b⟩ := O.ex
  refine ⟨f, g, ?_, kp⟩
  have := F.raw b .nil
  exact this.imp fun vs H Q E h => by rw [List.append_nil]; exact h
/-! ### len(x) of an instance whose class has a __len__ of its own -/
def rLenOwn (C : Addr) (sp : Sp) : List V → Hp → VK → Prop := fun xs H Q => ∃ a dx fs, xs = [V.ref a] ∧ H a = some (.ins C dx fs) ∧ sp [.ref a] H (fun z H' => ∃ n : Nat, z = .int n ∧ n ≤ 1000 ∧ Q z H') E0
theorem call_lenOwn {X : Cx} {C g : Addr} {n : Nat} {sp : Sp} (hs : PySem.W.findIn X.K (.ref C) "__len__" = some (some (.ref g))) (hf : PySem.W.isFn X.K (.ref g) = true) (F : FnR X.prog X.w X.K X.mg X.base CX0 n g sp) (hr : Room (n + 1) X.A) : CallR X (.builtin "len") (rLenOwn C sp) := by
  intro pins s σ H xs us Q I r h
  obtain ⟨a, dx, fs, rfl, ha, q⟩ := h
  obtain ⟨u, rfl, ru⟩ := r.one
  cases (show u = Value.ref a from ru)
  obtain ⟨mA, O, _⟩ := ins_get I.hok ha
  obtain ⟨od, J, _⟩ := O.look
  have hr1 : Room n X.A.in1 := Room.in1 hr
  refine Calls.call_function_entry kind_len plain_len entry_len (args_len1 _) ?_
  unfold Builtin.«len»
  refine wpAny_bind (m := oneArg "len" _) (wpAny_pure ?_)
  refine wpAny_bind (m := callSpecial? (.ref a) (Str.ofString "__len__")) (PySem.W.special_fn I.kIn J hs (beq_iff_eq.mp hf) (wpAny_mono (wpAny_call (SlX.run_at (us := [.ref a]) (ws := [.ref a]) F hr1 I.env0.in1 pass0 I (.cons rfl .nil) q)) (fun w s' z => ?_) fun _ _ x => x))
  obtain ⟨z', H', I', rz, m, ei, hm, qz⟩ := z
  subst ei
  obtain ⟨t, e⟩ := (show ∃ t, w = Value.int (m : Int) t from rz)
  cases e
  refine wpAny_bind (wpAny_holding (wpAny_pure ?_))
  refine wpAny_bind (wpAny_letGo ?_)
  show wpAny _ _ (if ((m : Nat) : Int) < 0 then _ else _) _ _ _
  rw [if_neg (by omega)]
  show wpAny _ _ (if ((m : Nat) : Int) ≥ 2 ^ 63 then _ else _) _ _ _
  rw [if_neg (by omega)]
  exact wpAny_bind (wpAny_mkInt (wpAny_pure ⟨_, rfl, .int m, H', I'.tok _, ⟨_, rfl⟩, qz⟩))
theorem call_lenM {X : Cx} {c : Str} {n : Nat} {ps : List Str} {sp : Sp} (O : OkM X.prog X.w X.K X.mg X.base n c "__len__" ps [] sp) (hr : Room (n + 1) X.A) : CallR X (.builtin "len") (rLenOwn (adr X.mg c) sp) := by
  obtain ⟨f, fd, ds, F, g, v, b⟩ := O.ex
  have R := F.raw b v
  exact call_lenOwn g.at_ g.fn (R.imp (sp' := sp) fun vs H Q E h => by rw [List.append_nil]; exact h) hr
/-! ### what the end tells of classes and methods -/
section
variable {K : PySem.W.Frag} {h : Heap} {mg : Str → Option Value} {x : Str} {C : Addr}
theorem clsN_of (X : K.In h) (G : h.Ns mainGlobals mg) (a : PySem.W.nsIn K mainGlobals x = some (some (.ref C))) (pg : PySem.W.plainGet K C Str.empty = true) (hd : PySem.W.hasDictIn K C = true) (po : PySem.W.plainOver K C = true)
    (sa : PySem.W.findIn K (.ref C) "__setattr__" = some (some (.builtin "object.__setattr__"))) (mk : PySem.W.makesIn K C = true) (kp : PySem.W.keepIn K (.ref C) = true) : ClsN K mg x := by
  have g := PySem.W.mg_of X G a
  have e := adr_of g
  refine ⟨by rw [e]; exact g, ?_, ?_, ?_⟩ <;> rw [e]
  · exact ⟨pg, hd, po, sa⟩
  · exact mk
  · exact kp
theorem noA_of (X : K.In h) (G : h.Ns mainGlobals mg) (a : PySem.W.nsIn K mainGlobals x = some (some (.ref C))) {f : Str} (n : PySem.W.findIn K (.ref C) f = some none) : NoAttr K (adr mg x) f := by
  rw [adr_of (PySem.W.mg_of X G a)]
  exact n
theorem dfM_of {m q : Str} {st : Stmt} {ps : List Str} {f : Addr} {oc : Value} {od an : Option Addr} {osl : Array (Option Value)} {kV doc pm cdv ct : Value} (X : K.In h) (G : h.Ns mainGlobals mg)
    (a : PySem.W.nsIn K mainGlobals x = some (some (.ref C))) (fi : PySem.W.findIn K (.ref C) m = some (some (.ref f))) (fn : PySem.W.isFn K (.ref f) = true)
    (l : K.lookup f = some ⟨oc, od, .func (PySem.W.fnOf m q (defArgs st) (defBody st) (defScope st) .none kV doc pm an cdv ct), osl⟩)
    (c : PySem.W.codeIn K cdv q = true) (k : PySem.W.keepIn K (.ref f) = true)
    (hb : ∀ (kV doc pm : Value) (an : Option Addr) (cdv ct : Value) (us : List Value), us.length = ps.length → bindArgs (PySem.W.fnOf m q (defArgs st) (defBody st) (defScope st) .none kV doc pm an cdv ct) ⟨us, []⟩ = pure (ps.zip us)) : DfM K mg x m q st ps [] := by
  have F := fun_mk (st := st) l c k
  refine ⟨f, _, [], F, .nil, F.binds hb, ?_⟩
  rw [adr_of (PySem.W.mg_of X G a)]
  exact ⟨fi, fn, k⟩
end
end OC
namespace OC
open PySem PySem.Spec PyProof.Rows L2
/-! ### constants of the module -/
theorem pe_cstr {X : Cx} {x : Str} {z : Str} {pos : Pos} (h : ∃ t, X.mg x = some (.str z t)) (hg : Gl X x) (hd : (x == ("__debug__" : Str)) = false := by decide) : PE X (.Name x pos) (tC (.str z)) := by
  obtain ⟨t, h⟩ := h
  exact pe_glob hg h ⟨t, rfl⟩ hd
theorem pe_cint {X : Cx} {x : Str} {z : Int} {pos : Pos} (h : ∃ t, X.mg x = some (.int z t)) (hg : Gl X x) (hd : (x == ("__debug__" : Str)) = false := by decide) : PE X (.Name x pos) (tC (.int z)) := by
  obtain ⟨t, h⟩ := h
  exact pe_glob hg h ⟨t, rfl⟩ hd
end OC
set_option Elab.async false
set_option linter.all false
set_option maxRecDepth 100000
set_option maxHeartbeats 4000000
/-! moments and books: what stands in memory, what they mean -/
namespace OC
open PySem PySem.Spec PyProof.Rows L2
/-- a moment: the prime, how many numbers, what the listener and each hand heard -/
structure Mom where
  p : Int
  n : Nat
  called : List (List Int)
  hands : List (Str × List (List Int))
def Mom.openM (m : Mom) : List (List Int) := plainR m.p m.n m.called
/-- what hands, or the listener, heard -/
def heardM (m : Mom) (ns : List Str) : List (List Int) := if ns = [] then m.called else selR ns m.hands
structure MomOk (B : Nat) (m : Mom) : Prop where
  fld : Fld m.p
  p1 : m.p ≤ 1000
  n1 : 1 ≤ m.n
  n8 : m.n ≤ 8
  okc : RowsOk m.p m.n m.called
  okh : ∀ h ∈ m.hands, RowsOk m.p m.n h.2
  inn : ∀ h ∈ m.hands, ∀ r ∈ m.called, InR m.p h.2 r
  few : 2 ≤ m.hands.length
  many : m.hands.length ≤ 6
  srt : sortedS (m.hands.map Prod.fst) = true
  nd : (m.hands.map Prod.fst).Nodup
  nm : ∀ x ∈ m.hands.map Prod.fst, NameOk x
  lc : m.called.length ≤ B
  lh : ∀ h ∈ m.hands, h.2.length ≤ B
theorem MomOk.mono {B B' : Nat} {m : Mom} (h : MomOk B m) (l : B ≤ B') : MomOk B' m := { h with lc := Nat.le_trans h.lc l, lh := fun x hx => Nat.le_trans (h.lh x hx) l }
/-! ### in memory -/
def momF (p : Int) (n : Nat) (c h : Addr) : List (Str × V) := putF "hands" (.ref h) (putF "called" (.ref c) (putF "n" (.int (n : Int)) (putF "p" (.int p) [])))
theorem momF_p {p : Int} {n : Nat} {c h : Addr} : (momF p n c h).lookup ("p" : Str) = some (.int p) := by
  unfold momF
  rw [lookup_putF, if_neg (by decide +kernel), lookup_putF, if_neg (by decide +kernel), lookup_putF, if_neg (by decide +kernel), lookup_putF, if_pos rfl]
theorem momF_n {p : Int} {n : Nat} {c h : Addr} : (momF p n c h).lookup ("n" : Str) = some (.int (n : Int)) := by
  unfold momF
  rw [lookup_putF, if_neg (by decide +kernel), lookup_putF, if_neg (by decide +kernel), lookup_putF, if_pos rfl]
theorem momF_called {p : Int} {n : Nat} {c h : Addr} : (momF p n c h).lookup ("called" : Str) = some (.ref c) := by
  unfold momF
  rw [lookup_putF, if_neg (by decide +kernel), lookup_putF, if_pos rfl]
theorem momF_hands {p : Int} {n : Nat} {c h : Addr} : (momF p n c h).lookup ("hands" : Str) = some (.ref h) := by
  unfold momF
  rw [lookup_putF, if_pos rfl]
def MomAt (K : PySem.W.Frag) (mg : Str → Option Value) (H : Hp) (a : Addr) (m : Mom) : Prop :=
  ∃ dx c h, H a = some (.ins (adr mg "Moment") dx (momF m.p m.n c h)) ∧ RowsAt K H c m.called ∧ Dp K H (.ref h) (.tuple (m.hands.map handD))
def bookF (w t u v : Addr) (am : Bool) : List (Str × V) := putF "amid" (.bl am) (putF "trials" (.ref v) (putF "done" (.ref u) (putF "moments" (.ref t) (putF "made" (.ref w) []))))
section
variable {w t u v : Addr} {am : Bool}
theorem bookF_amid : (bookF w t u v am).lookup ("amid" : Str) = some (.bl am) := by
  unfold bookF
  rw [lookup_putF, if_pos rfl]
theorem bookF_done : (bookF w t u v am).lookup ("done" : Str) = some (.ref u) := by
  unfold bookF
  rw [lookup_putF, if_neg (by decide +kernel), lookup_putF, if_neg (by decide +kernel), lookup_putF, if_pos rfl]
theorem bookF_moments : (bookF w t u v am).lookup ("moments" : Str) = some (.ref t) := by
  unfold bookF
  rw [lookup_putF, if_neg (by decide +kernel), lookup_putF, if_neg (by decide +kernel), lookup_putF, if_neg (by decide +kernel), lookup_putF, if_pos rfl]
theorem bookF_none {f : Str} (h1 : ¬ f = "amid") (h2 : ¬ f = "trials") (h3 : ¬ f = "done") (h4 : ¬ f = "moments") (h5 : ¬ f = "made") : (bookF w t u v am).lookup f = none := by
  unfold bookF
  rw [lookup_putF, if_neg h1, lookup_putF, if_neg h2, lookup_putF, if_neg h3, lookup_putF, if_neg h4, lookup_putF, if_neg h5]
  rfl
theorem bookF_eq : bookF w t u v am = ([(("made" : Str), V.ref w), (("moments" : Str), V.ref t), (("done" : Str), V.ref u), (("trials" : Str), V.ref v), (("amid" : Str), V.bl am)] : List (Str × V)) := by
  have e1 : ¬ (("made" : Str) = "moments") := by decide +kernel
  have e2 : ¬ (("made" : Str) = "done") := by decide +kernel
  have e3 : ¬ (("made" : Str) = "trials") := by decide +kernel
  have e4 : ¬ (("made" : Str) = "amid") := by decide +kernel
  have e5 : ¬ (("moments" : Str) = "done") := by decide +kernel
  have e6 : ¬ (("moments" : Str) = "trials") := by decide +kernel
  have e7 : ¬ (("moments" : Str) = "amid") := by decide +kernel
  have e8 : ¬ (("done" : Str) = "trials") := by decide +kernel
  have e9 : ¬ (("done" : Str) = "amid") := by decide +kernel
  have e0 : ¬ (("trials" : Str) = "amid") := by decide +kernel
  unfold bookF
  simp only [putF, if_neg e1, if_neg e2, if_neg e3, if_neg e4, if_neg e5, if_neg e6, if_neg e7, if_neg e8, if_neg e9, if_neg e0]
theorem bookF_setMoments (z : Addr) : putF "moments" (.ref z) (bookF w t u v am) = bookF w z u v am := by
  rw [bookF_eq, bookF_eq]
  have e1 : ¬ (("made" : Str) = "moments") := by decide +kernel
  simp only [putF, if_neg e1, if_true]
theorem bookF_setDone (z : Addr) : putF "done" (.ref z) (bookF w t u v am) = bookF w t z v am := by
  rw [bookF_eq, bookF_eq]
  have e1 : ¬ (("made" : Str) = "done") := by decide +kernel
  have e2 : ¬ (("moments" : Str) = "done") := by decide +kernel
  simp only [putF, if_neg e1, if_neg e2, if_true]
theorem bookF_len : (bookF w t u v am).length = 5 := by rw [bookF_eq]; rfl
end
/-- the deeds -/
inductive Deed where
  | call (x : Str) (r : List Int)
  | whisper (ns : List Str) (r : List Int)
  | meet (ns : List Str)
  | hide
  | change (k : Nat) (r : List Int)
  | come (x : Str) (rs : List (List Int))
  | go (x : Str)
def strsD (ns : List Str) : PyData := .tuple (ns.map PyData.str)
def deedD : Deed → PyData
  | .call x r => .tuple [.str "call", .str x, rowD r]
  | .whisper ns r => .tuple [.str "whisper", strsD ns, rowD r]
  | .meet ns => .tuple [.str "meet", strsD ns]
  | .hide => .tuple [.str "hide"]
  | .change k r => .tuple [.str "change", .int k, rowD r]
  | .come x rs => .tuple [.str "come", .str x, .tuple (rs.map rowD)]
  | .go x => .tuple [.str "go", .str x]
theorem noL_strsA : ∀ ns : List Str, noLAll (ns.map PyData.str) = true
  | [] => rfl
  | x :: ns => by simp only [List.map_cons, noLAll, noL, Bool.true_and]; exact noL_strsA ns
theorem noL_strsD (ns : List Str) : noL (strsD ns) = true := by
  unfold strsD
  simp only [noL]
  exact noL_strsA ns
theorem noL_deed (d : Deed) : noL (deedD d) = true := by
  cases d with
  | call x r => simp only [deedD, noL, noLAll, noL_row, Bool.and_true]
  | whisper ns r => simp only [deedD, noL, noLAll, noL_row, noL_strsD, Bool.and_true]
  | meet ns => simp only [deedD, noL, noLAll, noL_strsD, Bool.and_true]
  | hide => rfl
  | change k r => simp only [deedD, noL, noLAll, noL_row, Bool.and_true]
  | come x rs =>
    have h := noL_rows rs
    simp only [deedD, noL, noLAll, h, Bool.and_true]
  | go x => simp only [deedD, noL, noLAll, Bool.and_true]
theorem noL_deeds : ∀ ds : List Deed, noLAll (ds.map deedD) = true
  | [] => rfl
  | d :: ds => by simp only [List.map_cons, noLAll, noL_deed, Bool.true_and]; exact noL_deeds ds
/-- a book as it stands: its moments, its deeds, its tries -/
structure BookS where
  made : PyData
  moms : List Mom
  deeds : List Deed
  trials : List PyData
  amid : Bool
def MomsAt (K : PySem.W.Frag) (mg : Str → Option Value) (H : Hp) : List V → List Mom → Prop
  | [], [] => True
  | v :: vs, m :: ms => (∃ a, v = .ref a ∧ MomAt K mg H a m) ∧ MomsAt K mg H vs ms
  | _, _ => False
structure BookAt (K : PySem.W.Frag) (mg : Str → Option Value) (H : Hp) (b : Addr) (q : BookS) : Prop where
  ex : ∃ dx w t u v vs, H b = some (.ins (adr mg "Book") dx (bookF w t u v q.amid)) ∧ SqT K H t vs ∧ MomsAt K mg H vs q.moms ∧ Dp K H (.ref u) (.tuple (q.deeds.map deedD)) ∧ Dp K H (.ref w) q.made ∧ Dp K H (.ref v) (.tuple q.trials)
  nd : noL q.made = true ∧ noLAll q.trials = true
  len : q.moms.length = q.deeds.length + 1
/-! ### what moves nothing of them -/
/-- tuples stand, moments stand -/
structure Mv (mg : Str → Option Value) (H H' : Hp) : Prop where
  tk : Tk H H'
  mo : ∀ a dx p n c h, H a = some (.ins (adr mg "Moment") dx (momF p n c h)) → H' a = some (.ins (adr mg "Moment") dx (momF p n c h))
section
variable {K : PySem.W.Frag} {mg : Str → Option Value} {H H' H'' : Hp} {a b : Addr} {m : Mom} {q : BookS}
theorem Mv.refl : Mv mg H H := ⟨Tk.refl _, fun _ _ _ _ _ _ h => h⟩
theorem Mv.of (s : Same H H') : Mv mg H H' := ⟨Tk.of s, fun _ _ _ _ _ _ h => s _ _ h⟩
theorem Mv.trans (x : Mv mg H H') (y : Mv mg H' H'') : Mv mg H H'' := ⟨x.tk.trans y.tk, fun a dx p n c h e => y.mo a dx p n c h (x.mo a dx p n c h e)⟩
theorem RowsAt.tk {a : Addr} {rs : List (List Int)} (t : Tk H H') (h : RowsAt K H a rs) : RowsAt K H' a rs := by
  obtain ⟨ws, e, d⟩ := h
  exact ⟨ws, t _ _ _ e, dpAll_tk t _ _ (noL_rows _) d⟩
theorem noL_handsT (hs : List (Str × List (List Int))) : noL (.tuple (hs.map handD)) = true := by
  simp only [noL]
  exact noL_hands hs
theorem MomAt.mv (x : Mv mg H H') (h : MomAt K mg H a m) : MomAt K mg H' a m := by
  obtain ⟨dx, c, hh, e, r, d⟩ := h
  exact ⟨dx, c, hh, x.mo _ _ _ _ _ _ e, r.tk x.tk, dp_tk x.tk _ _ (noL_handsT _) d⟩
theorem MomAt.same (s : Same H H') (h : MomAt K mg H a m) : MomAt K mg H' a m := h.mv (.of s)
theorem MomsAt.mv (x : Mv mg H H') : ∀ {vs : List V} {ms : List Mom}, MomsAt K mg H vs ms → MomsAt K mg H' vs ms
  | [], [], _ => trivial
  | v :: vs, m :: ms, ⟨⟨a, e, h⟩, r⟩ => ⟨⟨a, e, h.mv x⟩, MomsAt.mv x r⟩
  | [], _ :: _, h => h.elim
  | _ :: _, [], h => h.elim
theorem MomsAt.len : ∀ {vs : List V} {ms : List Mom}, MomsAt K mg H vs ms → vs.length = ms.length
  | [], [], _ => rfl
  | v :: vs, m :: ms, ⟨_, r⟩ => by rw [List.length_cons, List.length_cons, MomsAt.len r]
  | [], _ :: _, h => h.elim
  | _ :: _, [], h => h.elim
theorem MomsAt.get : ∀ {vs : List V} {ms : List Mom} {i : Nat} {m : Mom}, MomsAt K mg H vs ms → ms[i]? = some m → ∃ a, vs[i]? = some (.ref a) ∧ MomAt K mg H a m
  | [], [], _, _, _, h => by simp at h
  | v :: vs, m :: ms, 0, m', ⟨⟨a, e, h⟩, _⟩, g => by
    cases g
    exact ⟨a, by rw [e]; rfl, h⟩
  | v :: vs, m :: ms, i + 1, m', ⟨_, r⟩, g => by
    obtain ⟨a, e, h⟩ := MomsAt.get (i := i) (m := m') r (by simpa using g)
    exact ⟨a, by simpa using e, h⟩
  | [], _ :: _, _, _, h, _ => h.elim
  | _ :: _, [], _, _, h, _ => h.elim
theorem MomsAt.append : ∀ {vs vs' : List V} {ms ms' : List Mom}, MomsAt K mg H vs ms → MomsAt K mg H vs' ms' → MomsAt K mg H (vs ++ vs') (ms ++ ms')
  | [], _, [], _, _, h => h
  | v :: vs, _, m :: ms, _, ⟨e, r⟩, h => ⟨e, MomsAt.append r h⟩
  | [], _, _ :: _, _, h, _ => h.elim
  | _ :: _, _, [], _, h, _ => h.elim
theorem MomsAt.take : ∀ {vs : List V} {ms : List Mom} (i : Nat), MomsAt K mg H vs ms → MomsAt K mg H (vs.take i) (ms.take i)
  | _, _, 0, _ => by simp [MomsAt]
  | [], [], i + 1, _ => by simp [MomsAt]
  | v :: vs, m :: ms, i + 1, ⟨e, r⟩ => by
    rw [List.take_succ_cons, List.take_succ_cons]
    exact ⟨e, MomsAt.take i r⟩
  | [], _ :: _, _ + 1, h => h.elim
  | _ :: _, [], _ + 1, h => h.elim
theorem noL_tup {ds : List PyData} (h : noLAll ds = true) : noL (.tuple ds) = true := by
  simp only [noL]
  exact h
theorem BookAt.mv (x : Mv mg H H') (hb : ∀ o, H b = some o → H' b = some o) (h : BookAt K mg H b q) : BookAt K mg H' b q := by
  obtain ⟨⟨dx, w, t, u, v, vs, e, h1, h2, h3, h4, h5⟩, nd, len⟩ := h
  exact ⟨⟨dx, w, t, u, v, vs, hb _ e, x.tk _ _ _ h1, h2.mv x, dp_tk x.tk _ _ (noL_tup (noL_deeds _)) h3, dp_tk x.tk _ _ nd.1 h4, dp_tk x.tk _ _ (noL_tup nd.2) h5⟩, nd, len⟩
theorem BookAt.same (s : Same H H') (h : BookAt K mg H b q) : BookAt K mg H' b q := h.mv (.of s) fun o e => s _ _ e
theorem BookAt.at_ (h : BookAt K mg H b q) : ∃ dx fs, H b = some (.ins (adr mg "Book") dx fs) ∧ ∀ f : Str, ¬ f = "amid" → ¬ f = "trials" → ¬ f = "done" → ¬ f = "moments" → ¬ f = "made" → fs.lookup f = none := by
  obtain ⟨⟨dx, w, t, u, v, vs, e, _⟩, _⟩ := h
  exact ⟨dx, _, e, fun f h1 h2 h3 h4 h5 => bookF_none h1 h2 h3 h4 h5⟩
/-- a store into the book alone -/
def Xc (b : Addr) (H H' : Hp) : Prop := ∀ a o, H a = some o → a ≠ b → H' a = some o
theorem Xc.refl : Xc b H H := fun _ _ h _ => h
theorem Xc.of (s : Same H H') : Xc b H H' := fun _ _ h _ => s _ _ h
theorem Xc.trans (x : Xc b H H') (y : Xc b H' H'') : Xc b H H'' := fun a o h n => y a o (x a o h n) n
theorem Xc.mvI {C dx : Addr} {fs : List (Str × V)} (e : H b = some (.ins C dx fs)) (np : fs.lookup ("p" : Str) = none) (x : Xc b H H') : Mv mg H H' := by
  refine ⟨fun K a xs h => ?_, fun a dx' p n c h e' => ?_⟩
  · rcases h with (h | ⟨o, h⟩) | h
    · exact .inl (.inl (x _ _ h fun z => by rw [z, e] at h; cases h))
    · exact .inl (.inr ⟨o, x _ _ h fun z => by rw [z, e] at h; cases h⟩)
    · exact .inr h
  · refine x _ _ e' fun z => ?_
    rw [z, e] at e'
    have e2 := congrArg (fun o => match o with | some (.ins _ _ fs) => List.lookup ("p" : Str) fs | _ => none) e'
    have e2 : fs.lookup ("p" : Str) = (momF p n c h).lookup ("p" : Str) := e2
    rw [momF_p, np] at e2
    cases e2
theorem Xc.mv {C dx : Addr} {w t u v : Addr} {am : Bool} (e : H b = some (.ins C dx (bookF w t u v am))) (x : Xc b H H') : Mv mg H H' :=
  x.mvI e (bookF_none (by decide +kernel) (by decide +kernel) (by decide +kernel) (by decide +kernel) (by decide +kernel))
/-- a deed more -/
def BookS.push (q : BookS) (m : Mom) (d : Deed) : BookS := { q with moms := q.moms ++ [m], deeds := q.deeds ++ [d] }
/-- the calls that told the listener nothing -/
def idleAt (q : BookS) (i : Nat) : Bool := match q.deeds[i]?, q.moms[i]? with
  | some (.call _ r), some m => hasR m.p m.n m.openM r
  | _, _ => false
def idleR (q : BookS) : List Nat := (List.range q.deeds.length).filter (idleAt q)
end
end OC
set_option Elab.async false
set_option linter.all false
set_option maxRecDepth 100000
set_option maxHeartbeats 4000000
/-! xs.extend(t), t any tuple -/
namespace PySem
open SeqRoads2 AutoSeq1
theorem oc_extend_tup {l b : Addr} {xs ys : Array Value} {n n2 : Nat} {dd : Option Addr} {sl : Array (Option Value)} (h1 : ¬(!xs.isEmpty && Builtin.List.listTooLong (xs.size + ys.size)) = true) (h2 : xs.size ≤ sizeLine) (h3 : xs.size + ys.size ≤ sizeLine + 1) :
    Meets (Builtin.«list.extend» ⟨[.ref l, .ref b], []⟩) (fun _ R s => s.heap.get? l = some { cls := .type "list", dict := none, data := .seq xs n, slots := #[] } ∧ s.heap.get? b = some { cls := .type "tuple", dict := dd, data := .seq ys n2, slots := sl } ∧
      R (.ok (.ret Value.none)) { s with heap := s.heap.update l (Obj.mapSeq fun x => x ++ ys), toks := s.toks }) := by
  refine .of_wp fun prog w A R s h => ?_
  obtain ⟨hp, g, d, tk, os⟩ := s
  obtain ⟨hl, hb, h⟩ := h
  have f2 := sub_tuple_tuple
  have f4 := sub_tuple_list
  have big : (xs ++ ys).size ≤ sizeLine + 1 := by rw [Array.size_append]; exact h3
  wp_walk using (wpAny_updateSeq hl rfl (hz := h2) (_hz' := big)), wpAny_loadPart' hl, wpAny_loadPart' hb
  exact ⟨_, rfl, h⟩
end PySem
namespace OC
open PySem PySem.Spec PyProof.Rows L2
def rExtT (K : PySem.W.Frag) : V → List V → Hp → VK → Prop := fun x vs H Q => ∃ l b xs zs, x = .ref l ∧ vs = [.ref b] ∧ H l = some (.lst xs) ∧ SqT K H b zs ∧ xs.length + zs.length ≤ sizeLine ∧ Q .non (upd H l (.lst (xs ++ zs)))
theorem mt_extT {X : Cx} : MtM X "list.extend" (rExtT X.K) := by
  intro pins s σ H x vs v us Q I rx rv h
  obtain ⟨l, b, xs, zs, rfl, rfl, hH, hB, hz, q⟩ := h
  cases rx
  obtain ⟨u, rfl, ru⟩ := rv.one
  cases ru
  obtain ⟨z, its, n, r, hl, e⟩ := I.lstM hH
  obtain ⟨its2, r2, pl, z2⟩ := I.tuple hB
  obtain ⟨⟨cls, dd, dt, sl⟩, ho, hc, n2, hd⟩ := pl
  simp only at hc hd
  subst hc hd
  have hl2 := r2.length
  have sz : its.toArray.size + its2.toArray.size ≤ sizeLine := by rw [List.size_toArray, List.size_toArray]; omega
  refine call_meets F.slot_list_extend ⟨_, e, rfl⟩ F.entry_list_extend (F.args_list_extend_2 _ _) (oc_extend_tup (by rw [notLongL sz, Bool.and_false]; exact Bool.false_ne_true) (by rw [List.size_toArray]; omega) (by omega)) ⟨e, ho, ?_⟩
  refine ⟨.non, _, I.lset (its' := its ++ its2) hH e (by simp) (r.append r2) ?_, rfl, q⟩
  rw [List.length_append]
  omega
end OC
set_option Elab.async false
set_option linter.all false
set_option maxRecDepth 100000
set_option maxHeartbeats 4000000
/-! methods within a comprehension: the reading must not name the block -/
namespace OC
open PySem PySem.Spec PyProof.Rows L2
section
variable {X : Cx} {P : Program} {w : World} {K : PySem.W.Frag} {mg : Str → Option Value} {base : Heap} {c m : Str} {ps ks : List Str} {dvs : List V} {k n : Nat} {sp : Sp}
theorem pe_methX {pl : Sem Bool} {o e : Expr} {es : List Expr} {ta : TE} {t : TA} {apos pos : Pos} (O : OkM P w K mg base k c m ps dvs sp) (C : ClsN K mg c) (hr : Room k X.A) (he : PE X o ta) (ha : PA X (e :: es) t)
    (hst : starEach (e :: es) X.env = (false, eval e X.env) :: starEach es X.env := by rfl) (hpl : (backTo pos (starEach es X.env)).any (·.1) = false := by rfl)
    (ht : eval (.Call (.Attribute o m apos) (e :: es) [] pos) X.env = (do
      let ov ← eval o X.env
      standAt apos.atName
      let (f, first) ← holding [ov] (getMethod ov m pl)
      callWith pos f first (backTo pos (starEach (e :: es) X.env)) (backToKw pos (keywordEach [] X.env))) := by rfl)
    (e1 : X.prog = P := by rfl) (e2 : X.w = w := by rfl) (e3 : X.K = K := by rfl) (e4 : X.mg = mg := by rfl) (e5 : X.base = base := by rfl) :
    PE X (.Call (.Attribute o m apos) (e :: es) [] pos) (tMeth (adr mg c) m sp dvs E0 ta t) := by
  subst e1; subst e2; subst e3; subst e4; subst e5
  exact pe_methO O C hr he ha hst hpl ht
end
end OC
set_option Elab.async false
set_option linter.all false
set_option maxRecDepth 100000
set_option maxHeartbeats 4000000
/-! what a book's calls mean; what moves no book -/
namespace OC
open PySem PySem.Spec PyProof.Rows L2
section
variable {K : PySem.W.Frag} {mg : Str → Option Value} {H H' H'' : Hp} {b d c : Addr} {t : Int} {q : BookS}
theorem Mv.kept (D : Deck H d c t) (k : Kept d c H H') : Mv mg H H' := by
  refine ⟨Tk.kept D k, fun a dx p n c' h e => k _ _ e (fun z => ?_) (fun z => ?_)⟩
  · rw [z, D.hd] at e; cases e
  · obtain ⟨cells, h1, _⟩ := D.hc
    rw [z, h1] at e; cases e
theorem BookAt.ins (h : BookAt K mg H b q) : ∃ dx fs, H b = some (.ins (adr mg "Book") dx fs) := by
  obtain ⟨⟨dx, w, t, u, v, vs, e, _⟩, _⟩ := h
  exact ⟨dx, _, e⟩
theorem BookAt.kept (D : Deck H d c t) (k : Kept d c H H') (h : BookAt K mg H b q) : BookAt K mg H' b q := by
  obtain ⟨dx, fs, e⟩ := h.ins
  obtain ⟨cells, h1, _⟩ := D.hc
  refine h.mv (.kept D k) fun o eo => k _ _ eo (fun z => ?_) (fun z => ?_)
  · rw [z, D.hd] at e; cases e
  · rw [z, h1] at e; cases e
end
/-! ### what is known behind calls -/
section
variable {B : Nat} {m : Mom} {r : List Int} {x : Str} {ns : List Str}
theorem sel_in {hs : List (Str × List (List Int))} {r : List Int} : r ∈ selR ns hs ↔ ∃ h ∈ hs, h.1 ∈ ns ∧ r ∈ h.2 := by
  unfold selR
  rw [List.mem_flatMap]
  constructor
  · rintro ⟨h, mh, hr⟩
    by_cases e : h.1 ∈ ns
    · rw [if_pos e] at hr
      exact ⟨h, mh, e, hr⟩
    · rw [if_neg e] at hr
      cases hr
  · rintro ⟨h, mh, e, hr⟩
    exact ⟨h, mh, by rw [if_pos e]; exact hr⟩
end
end OC
set_option Elab.async false
set_option linter.all false
set_option maxRecDepth 100000
set_option maxHeartbeats 4000000
/-! one number more: rows with a 0 behind -/
namespace OC
open PySem PySem.Spec PyProof.Rows L2
def ext0 (r : List Int) : List Int := r ++ [0]
section
variable {q : Nat} [NeZero q]
theorem toV_ext (r : List Int) : toV (q := q) (ext0 r) = toV r := by
  funext i
  unfold toV ext0
  congr 1
  rw [List.getD_eq_getElem?_getD, List.getD_eq_getElem?_getD]
  by_cases h : i < r.length
  · rw [List.getElem?_append_left h]
  · rw [List.getElem?_append_right (by omega), List.getElem?_eq_none (l := r) (by omega)]
    by_cases h2 : i - r.length = 0
    · rw [h2]; rfl
    · rw [List.getElem?_eq_none (by rw [List.length_singleton]; omega)]
theorem mapV_ext (rs : List (List Int)) : (rs.map ext0).map (toV (q := q)) = rs.map toV := by
  rw [List.map_map]
  exact List.map_congr_left fun r _ => toV_ext r
end
theorem InR.ext {p : Int} {rs : List (List Int)} {r : List Int} : InR p (rs.map ext0) r ↔ InR p rs r := by
  constructor
  · intro h q z e
    have := h q z e
    unfold Mk at this ⊢
    rw [mapV_ext] at this
    exact this
  · intro h q z e
    have := h q z e
    unfold Mk at this ⊢
    rw [mapV_ext]
    exact this
end OC
set_option Elab.async false
set_option linter.all false
set_option maxRecDepth 100000
set_option maxHeartbeats 4000000
/-! a book beside drawn numbers; its methods' names are no fields -/
namespace OC
open PySem PySem.Spec PyProof.Rows L2
section
variable {K : PySem.W.Frag} {mg : Str → Option Value} {H H' H'' : Hp} {b d c e : Addr} {t : Int} {q : BookS}
theorem has_one {B : Nat} {m : Mom} {r : List Int} {h : Str × List (List Int)} (M : MomOk B m) (ok : RowsOk m.p m.n [r]) (mh : h ∈ m.hands) (i : InR m.p h.2 r) : hasR m.p m.n (plainR m.p m.n (heardM m [h.1])) r = true := by
  have e0 : heardM m [h.1] = selR [h.1] m.hands := by
    unfold heardM
    rw [if_neg fun z => by cases z]
  rw [e0]
  refine (hasR_plain M.fld (sel_ok M.okh) ok).mpr (InR.mono (fun z hz => InR.mem (sel_in.mpr ⟨h, mh, List.mem_singleton_self _, hz⟩)) i)
end
end OC
set_option Elab.async false
set_option linter.all false
set_option maxRecDepth 100000
set_option maxHeartbeats 4000000
/-! what the other deeds make of a moment -/
set_option Elab.async false
set_option linter.all false
set_option maxRecDepth 100000
set_option maxHeartbeats 4000000
/-! sorted(d.items()), the keys texts: pairs of a text and data -/
namespace OC
open PySem PySem.W PySem.Spec PyProof.Rows L2 SeqAt
/-- d.items() as a value -/
def rItemsK : V → List V → Hp → VK → Prop := fun x xs H Q => ∃ (a : Addr) (kvs : List (L2.Key × V)), x = .ref a ∧ xs = [] ∧ H a = some (.dK kvs) ∧ ∀ p, H p = none → Q (.ref p) (upd H p (L2.DX.itemsO p a))
theorem mt_itemsK {X : Cx} : MtR X "dict.items" rItemsK := by
  intro pins s σ H x xs v us Q I rx rxs h
  obtain ⟨a, kvs, rfl, rfl, ha, q⟩ := h
  cases rx
  cases rxs
  obtain ⟨hz, hs0, vs, kv, o, es, ep, ho, hx, hdat, hkeys, hpairs, hnd⟩ := I.hok a _ ha
  refine DT.callItems (es := es) (ep := ep) hs0 ⟨o, ho, hx, hdat⟩ ?_
  have hf : H s.heap.objs.size = none := I.hok.fresh (Nat.le_refl _)
  exact ⟨.ref s.heap.objs.size, upd H s.heap.objs.size (L2.DX.itemsO s.heap.objs.size a), I.laid (t' := s.toks) (fun b u e => Heap.get?_push_of_some _ e) (Nat.le_refl _) (L2.DX.itemsO_ok (Heap.get?_push_size _ rfl)), rfl, q _ hf⟩
def pairT (d : Str × PyData) : PyData := .tuple [.str d.1, d.2]
def rSortIK (K : PySem.W.Frag) : List V → Hp → VK → Prop := fun vs H Q => ∃ (p a : Addr) (kvs : List (L2.Key × V)) (ds : List (Str × PyData)), vs = [V.ref p] ∧ H p = some (L2.DX.itemsO p a) ∧ H a = some (.dK kvs) ∧ Paired (fun (kv : L2.Key × V) (d : Str × PyData) => kv.1 = Sum.inr d.1 ∧ Dp K H kv.2 d.2) kvs ds ∧ AllAlike (ds.map pairT) ∧ SortableE (ds.map pairT) ∧ (∀ d ∈ ds, (pairT d).depth ≤ 8) ∧
  ∀ H' l us, Same H H' → H' l = some (.lst us) → DpAll K H' us ((ds.map pairT).mergeSort (dataLe false id)) → Q (.ref l) H'
theorem pairs_get {prog : Program} {w : World} {K : Type} [DecidableEq K] {knd : KeyKind prog w K} : ∀ {es : List DictEntry} {kvs : List (K × Value)}, Pairs knd es kvs → ∀ {j : Nat} {e : DictEntry}, es[j]? = some e → ∃ kv, kvs[j]? = some kv ∧ knd.is kv.1 e.key = true ∧ e.val = kv.2
  | _, _, .nil, j, e, h => by simp at h
  | _, _, .cons h1 h2 t, 0, e, h => by
    cases h
    exact ⟨_, rfl, h1, h2⟩
  | _, _, .cons _ _ t, j + 1, e, h => by
    obtain ⟨kv, a, b, c⟩ := pairs_get t (j := j) (e := e) (by simpa using h)
    exact ⟨kv, by simpa using a, b, c⟩
theorem cr_sortIK {X : Cx} {k : Nat} (hc : X.calm = true) (hr : Room k X.A) : CallR X (.builtin "sorted") (rSortIK X.K) := by
  intro pins s σ H xs us Q I r h
  obtain ⟨p, a, kvs, ds, rfl, hp, ha, hpd, hal, hk, hdp, q⟩ := h
  rw [Vals.ref1 r]
  have view : s.heap.IsItemsView p a := (show ObjOk X.prog X.w H s.heap p (L2.DX.itemsO p a) from I.hok p _ hp).1
  obtain ⟨hz, hs0, vs, kv, o, es, ep, ho, hx, hdat, hkeys, hpairs, hnd⟩ := I.hok a _ ha
  have lk : kvs.length = vs.length := Paired.length kv
  have le : es.size = vs.length := by rw [← Array.length_toList]; exact hpairs.length
  have hh : X.A.handled = none := I.ok.hd hc
  refine DT.sortedI (es := es) (ep := ep) hh view ⟨o, ho, hx, hdat⟩ (by omega) fun h' tk as hk' hlt hl hG => ?_
  have nd : as.Nodup := List.Pairwise.imp (fun h => Nat.ne_of_lt h) hG.rise
  -- the pairs, tracked
  have I0 : Inv X pins σ H { s with heap := h', toks := tk } := I.kept (t' := tk) hk'
  obtain ⟨H1, I1, g1, qt⟩ := L2.DX.takeT (P := fun b vs' => ∃ (j : Nat) (e : L2.Key × V), as[j]? = some b ∧ kvs[j]? = some e ∧ vs' = [kV e.1, e.2]) I as H I0 nd fun b hb => by
    obtain ⟨j, hj⟩ := List.mem_iff_getElem?.mp hb
    obtain ⟨en, he, hg⟩ := hG.pairs j b hj
    have he' : es.toList[j]? = some en := by rw [Array.getElem?_toList]; exact he
    obtain ⟨kx, hv, k1, k2⟩ := pairs_get hpairs he'
    obtain ⟨e, e1, e2, e3⟩ := L2.DX.pget kv hv
    have rk : RelV (kV e.1) en.key := by
      rw [e2]
      exact relV_key (show keyIs kx.1 en.key = true from k1)
    refine ⟨Nat.le_of_lt (hG.above b hb), I.hok.fresh (Nat.le_of_lt (hG.above b hb)), [kV e.1, e.2], ⟨j, e, hj, e1, rfl⟩, fun H2 => ⟨by show 2 ≤ sizeLine; decide, [en.key, en.val], .cons rk (.cons (by rw [k2]; exact e3) .nil), ⟨_, hg, rfl, 0, rfl⟩⟩⟩
  have s1 : Same H H1 := g1
  have lad : as.length = ds.length := by have := Paired.length hpd; omega
  have dpj : ∀ (j : Nat) (b : Addr), as[j]? = some b → ∃ d, ds[j]? = some d ∧ Dp X.K H1 (.ref b) (pairT d) := fun j b hj => by
    obtain ⟨vs', ⟨j', e, hj', e1, rfl⟩, e2⟩ := qt b (List.mem_of_getElem? hj)
    have hjj : j' = j := by
      have l1 : j' < as.length := (List.getElem?_eq_some_iff.mp hj').1
      exact (List.getElem?_inj l1 nd).mp (by rw [hj', hj])
    subst hjj
    obtain ⟨d, f1, f2⟩ := LiI.paired_get hpd e1
    refine ⟨d, f1, .tup (.inl (.inl e2)) ?_⟩
    rw [f2.1]
    exact .cons (.str d.1) (.cons (dp_same s1 _ _ f2.2) .nil)
  -- the list and the sort
  have hob : (h'.push { cls := .type "list", data := .seq (as.map Value.ref).toArray }).get? h'.objs.size = some (seqObj "list" (as.map Value.ref).toArray 0) := Heap.get?_push_size _ rfl
  have ne0 : ∀ b o, h'.get? b = some o → b ≠ h'.objs.size := fun b o e => Nat.ne_of_lt (Heap.lt_size e)
  have ka : ∀ b o, h'.get? b = some o → (h'.push { cls := .type "list", data := .seq (as.map Value.ref).toArray }).get? b = some o := fun b o e => Heap.get?_push_of_some _ e
  generalize hh2 : h'.push { cls := .type "list", data := .seq (as.map Value.ref).toArray } = h2 at hob ka ⊢
  generalize hps : (as.map V.ref).zip (ds.map pairT) = ps
  have f1 : ps.map Prod.fst = as.map V.ref := by rw [← hps, List.map_fst_zip (by rw [List.length_map, List.length_map]; omega)]
  have f2 : ps.map Prod.snd = ds.map pairT := by rw [← hps, List.map_snd_zip (by rw [List.length_map, List.length_map]; omega)]
  have hd : ∀ z ∈ ps, Dp X.K H1 z.1 z.2 := fun z hz => by
    rw [← hps] at hz
    obtain ⟨j, hj⟩ := List.mem_iff_getElem?.mp hz
    obtain ⟨a1, a2⟩ := List.getElem?_zip_eq_some.mp hj
    rw [List.getElem?_map] at a1 a2
    obtain ⟨b, b1, b2⟩ := Option.map_eq_some_iff.mp a1
    obtain ⟨d, d1, d2⟩ := Option.map_eq_some_iff.mp a2
    obtain ⟨d', d3, d4⟩ := dpj j b b1
    cases d1.symm.trans d3
    rw [← b2, ← d2]
    exact d4
  have rv : Vals (ps.map Prod.fst) (as.map Value.ref) := by rw [f1]; exact LiI.vals_refs as
  have er : EachIs (fun u (b : V × PyData) => ∃ as, Reads h' u b.2 as) (as.map Value.ref) ps := each_pairs rv fun u q mq rq => Dp.reads I1 q.2 q.1 u (hd q mq) rq
  have e : EachIs (fun u (b : V × PyData) => RelV b.1 u) (as.map Value.ref) ps := each_pairs rv fun u q _ rq => rq
  have un := hr.un
  have er' : EachIs (fun v (b : V × PyData) => ∃ as', Reads (sortingHeap h2 h'.objs.size (as.map Value.ref)) v b.2 as') (as.map Value.ref) ps := er.mono fun _ _ ⟨as', r⟩ => ⟨as', PyProof.Rows.Reads.keeps (fun b o hb => sortingHeap_old (ne0 b o hb) (ka b o hb)) r⟩
  have lz : (as.map Value.ref).length ≤ sizeLine := by rw [List.length_map]; omega
  refine wpAny_call_entry PyProof.Rows.slot_list_sort ⟨_, hob, rfl⟩ PyProof.Rows.entry_list_sort (list_sort_vals (κ := dataKind (sortingHeap h2 h'.objs.size (as.map Value.ref)) (ps.map Prod.snd)) hob (sortsAtE (s := { s with heap := sortingHeap h2 h'.objs.size (as.map Value.ref), toks := tk }) (ds := ps.map Prod.snd) (each_map (R := fun v d => ∃ as', Reads (sortingHeap h2 h'.objs.size (as.map Value.ref)) v d as') Prod.snd er') (by rw [f2]; exact hal) (by rw [f2]; exact hk) (fun d hd' => ?_)) lz ⟨.none, rfl, ?_⟩) (PyProof.Rows.args_list_sort _)
  · rw [f2] at hd'
    obtain ⟨b, mb, rfl⟩ := List.mem_map.mp hd'
    have := hdp b mb
    show X.A.units + 1 + 1 + (pairT b).depth < cLine
    omega
  · have so := sortVals_data (h' := sortingHeap h2 h'.objs.size (as.map Value.ref)) (enc := Prod.snd) false e er' (by rw [f2]; exact hal)
    have ln := sortVals_length (κ := dataKind (sortingHeap h2 h'.objs.size (as.map Value.ref)) (ps.map Prod.snd)) (vs := as.map Value.ref) (ks := as.map Value.ref) false rfl
    generalize sortVals (dataKind (sortingHeap h2 h'.objs.size (as.map Value.ref)) (ps.map Prod.snd)) false (as.map Value.ref) (as.map Value.ref) = out at so ln
    have vo := pairs_each so
    obtain ⟨eF, heF⟩ := PyProof.Rows.sortedHeap_at (vs := as.map Value.ref) (out := out.toArray) hob
    have kF : ∀ b o, h'.get? b = some o → (sortedHeap h2 h'.objs.size (as.map Value.ref) out.toArray).get? b = some o := fun b o q => (PyProof.Rows.sortedHeap_old (ne0 b o q) (Heap.lt_size (ka b o q))).trans (ka b o q)
    have I1' : Inv X pins σ H1 { s with heap := sortedHeap h2 h'.objs.size (as.map Value.ref) out.toArray, toks := tk } := I1.kept (t' := tk) kF
    have hn : H1 h'.objs.size = none := I1.hok.fresh (Nat.le_refl _)
    have lps : ps.length = as.length := by have := congrArg List.length f1; rw [List.length_map, List.length_map] at this; exact this
    have lzz : ((ps.mergeSort dataLeP).map Prod.fst).length ≤ sizeLine := by
      rw [List.length_map, List.length_mergeSort]
      omega
    have I2 : Inv X pins σ (upd H1 h'.objs.size (.lst ((ps.mergeSort dataLeP).map Prod.fst))) { s with heap := sortedHeap h2 h'.objs.size (as.map Value.ref) out.toArray, toks := tk } :=
      I1'.take (h' := sortedHeap h2 h'.objs.size (as.map Value.ref) out.toArray) (t' := tk) (fun b ob _ e => e) (I1.fpOk (Nat.le_refl _) hn) ⟨lzz, out, eF, vo, heF⟩
    have s2 : Same H1 (upd H1 h'.objs.size (.lst ((ps.mergeSort dataLeP).map Prod.fst))) := same_upd hn
    refine ⟨.ref h'.objs.size, _, I2, rfl, q _ _ _ (s1.trans s2) upd_same ?_⟩
    have pm := List.mergeSort_perm ps dataLeP
    have e3 : (ps.mergeSort dataLeP).map Prod.snd = (ds.map pairT).mergeSort (dataLe false id) := by
      rw [List.map_mergeSort (r := dataLeP) (s := dataLe false id) (f := Prod.snd) (l := ps) (fun a _ b _ => rfl), f2]
    rw [← e3]
    exact of_pairs fun z hz => dp_same s2 _ _ (hd z (pm.mem_iff.mp hz))
end OC
set_option Elab.async false
set_option linter.all false
set_option maxRecDepth 100000
set_option maxHeartbeats 4000000
/-! d.get(k, z), the keys numbers or texts -/
namespace OC
open PySem PySem.Spec PyProof.Rows L2
def rGetK : V → List V → Hp → VK → Prop := fun x xs H Q => ∃ (a : Addr) (kvs : List (L2.Key × V)) (k : L2.Key) (z : V), x = .ref a ∧ xs = [kV k, z] ∧ H a = some (.dK kvs) ∧ Q ((valV kvs k).getD z) H
theorem mt_getK {X : Cx} (hu : X.A.units + 1 < cLine) : MtR X "dict.get" rGetK := by
  intro pins s σ H x xs v us Q I rx rxs h
  obtain ⟨a, kvs, k, z, rfl, rfl, ha, q1⟩ := h
  cases rx
  obtain ⟨u1, u2, rfl, r1, r2⟩ := vals2 rxs
  exact d_get2 hu I (DGet.k (k := k) ha) r1 r2 fun w' s' I' rw' => ⟨_, H, I', rw', q1⟩
end OC
set_option Elab.async false
set_option linter.all false
set_option maxRecDepth 100000
set_option maxHeartbeats 4000000
namespace OC
open PySem PySem.Spec PyProof.Rows L2
def topS (i : Nat) : Stmt := PySem.Challenge.pw_opencalls_k80_whole_calls_in_any_order.main.body.getD i (.Pass ⟨0, 0, 0, 0⟩)
abbrev s_is_name : Stmt := topS 19
abbrev N_is_name : List Str := ["thing", "sign"]
theorem sc_is_name : FnScope N_is_name ["thing"] (defScope s_is_name) := ⟨rfl, rfl, rfl, by decide +kernel, rfl, by decide +kernel, by decide +kernel⟩
abbrev s_is_rising : Stmt := topS 20
abbrev N_is_rising : List Str := ["things", "one", "other"]
theorem sc_is_rising : FnScope N_is_rising ["things"] (defScope s_is_rising) := ⟨rfl, rfl, rfl, by decide +kernel, rfl, by decide +kernel, by decide +kernel⟩
abbrev s_are_names : Stmt := topS 21
abbrev N_are_names : List Str := ["thing", "part"]
theorem sc_are_names : FnScope N_are_names ["thing"] (defScope s_are_names) := ⟨rfl, rfl, rfl, by decide +kernel, rfl, by decide +kernel, by decide +kernel⟩
abbrev s_is_number : Stmt := topS 23
abbrev N_is_number : List Str := ["thing"]
theorem sc_is_number : FnScope N_is_number ["thing"] (defScope s_is_number) := ⟨rfl, rfl, rfl, by decide +kernel, rfl, by decide +kernel, by decide +kernel⟩
abbrev s_is_rest : Stmt := topS 24
abbrev N_is_rest : List Str := ["p", "thing"]
theorem sc_is_rest : FnScope N_is_rest ["p", "thing"] (defScope s_is_rest) := ⟨rfl, rfl, rfl, by decide +kernel, rfl, by decide +kernel, by decide +kernel⟩
abbrev s_contrary : Stmt := topS 25
abbrev N_contrary : List Str := ["p", "a", "b"]
theorem sc_contrary : FnScope N_contrary ["p", "a"] (defScope s_contrary) := ⟨rfl, rfl, rfl, by decide +kernel, rfl, by decide +kernel, by decide +kernel⟩
abbrev s_is_row : Stmt := topS 27
abbrev N_is_row : List Str := ["p", "n", "thing", "part"]
theorem sc_is_row : FnScope N_is_row ["p", "n", "thing"] (defScope s_is_row) := ⟨rfl, rfl, rfl, by decide +kernel, rfl, by decide +kernel, by decide +kernel⟩
abbrev s_added : Stmt := topS 28
abbrev N_added : List Str := ["p", "one", "other", "a", "b"]
theorem sc_added : FnScope N_added ["p", "one", "other"] (defScope s_added) := ⟨rfl, rfl, rfl, by decide +kernel, rfl, by decide +kernel, by decide +kernel⟩
abbrev s_times : Stmt := topS 29
abbrev N_times : List Str := ["p", "a", "row", "rest"]
theorem sc_times : FnScope N_times ["p", "a", "row"] (defScope s_times) := ⟨rfl, rfl, rfl, by decide +kernel, rfl, by decide +kernel, by decide +kernel⟩
abbrev s_check_hand : Stmt := topS 31
abbrev N_check_hand : List Str := ["there", "hand"]
theorem sc_check_hand : FnScope N_check_hand ["there", "hand"] (defScope s_check_hand) := ⟨rfl, rfl, rfl, by decide +kernel, rfl, by decide +kernel, by decide +kernel⟩
abbrev s_check_hands : Stmt := topS 32
abbrev N_check_hands : List Str := ["there", "hands", "least", "hand"]
theorem sc_check_hands : FnScope N_check_hands ["there", "hands", "least"] (defScope s_check_hands) := ⟨rfl, rfl, rfl, by decide +kernel, rfl, by decide +kernel, by decide +kernel⟩
abbrev s_check_row : Stmt := topS 33
abbrev N_check_row : List Str := ["p", "n", "row"]
theorem sc_check_row : FnScope N_check_row ["p", "n", "row"] (defScope s_check_row) := ⟨rfl, rfl, rfl, by decide +kernel, rfl, by decide +kernel, by decide +kernel⟩
abbrev s_is_noughts : Stmt := topS 35
abbrev N_is_noughts : List Str := ["row", "rest"]
theorem sc_is_noughts : FnScope N_is_noughts ["row"] (defScope s_is_noughts) := ⟨rfl, rfl, rfl, by decide +kernel, rfl, by decide +kernel, by decide +kernel⟩
abbrev s_first_place : Stmt := topS 36
abbrev N_first_place : List Str := ["row", "at", "rest"]
theorem sc_first_place : FnScope N_first_place ["row"] (defScope s_first_place) := ⟨rfl, rfl, rfl, by decide +kernel, rfl, by decide +kernel, by decide +kernel⟩
abbrev s_cleared : Stmt := topS 37
abbrev N_cleared : List Str := ["p", "plain", "row", "factor"]
theorem sc_cleared : FnScope N_cleared ["p", "plain", "row"] (defScope s_cleared) := ⟨rfl, rfl, rfl, by decide +kernel, rfl, by decide +kernel, by decide +kernel⟩
abbrev s_left_of : Stmt := topS 38
abbrev N_left_of : List Str := ["p", "room", "row", "plain"]
theorem sc_left_of : FnScope N_left_of ["p", "room", "row"] (defScope s_left_of) := ⟨rfl, rfl, rfl, by decide +kernel, rfl, by decide +kernel, by decide +kernel⟩
abbrev s_widened : Stmt := topS 39
abbrev N_widened : List Str := ["p", "room", "row", "rest", "at", "fresh", "plain"]
theorem sc_widened : FnScope N_widened ["p", "room", "row"] (defScope s_widened) := ⟨rfl, rfl, rfl, by decide +kernel, rfl, by decide +kernel, by decide +kernel⟩
abbrev s_room_of : Stmt := topS 40
abbrev N_room_of : List Str := ["p", "n", "rows", "room", "row"]
theorem sc_room_of : FnScope N_room_of ["p", "n", "rows"] (defScope s_room_of) := ⟨rfl, rfl, rfl, by decide +kernel, rfl, by decide +kernel, by decide +kernel⟩
abbrev s_within : Stmt := topS 41
abbrev N_within : List Str := ["p", "room", "row"]
theorem sc_within : FnScope N_within ["p", "room", "row"] (defScope s_within) := ⟨rfl, rfl, rfl, by decide +kernel, rfl, by decide +kernel, by decide +kernel⟩
abbrev s_names_of : Stmt := topS 43
abbrev N_names_of : List Str := ["stand", "name", "room"]
theorem sc_names_of : FnScope N_names_of ["stand"] (defScope s_names_of) := ⟨rfl, rfl, rfl, by decide +kernel, rfl, by decide +kernel, by decide +kernel⟩
abbrev s_room_in : Stmt := topS 44
abbrev N_room_in : List Str := ["stand", "names", "p", "n", "known", "hands", "rows", "name", "room"]
theorem sc_room_in : FnScope N_room_in ["stand", "names"] (defScope s_room_in) := ⟨rfl, rfl, rfl, by decide +kernel, rfl, by decide +kernel, by decide +kernel⟩
abbrev s_behind : Stmt := topS 45
abbrev N_behind : List Str := ["stand", "hand", "row", "p", "n", "known", "hands", "name", "room", "told"]
theorem sc_behind : FnScope N_behind ["stand", "hand", "row"] (defScope s_behind) := ⟨rfl, rfl, rfl, by decide +kernel, rfl, by decide +kernel, by decide +kernel⟩
abbrev s_names_at : Stmt := topS 52
abbrev N_names_at : List Str := ["moment", "name", "rows"]
theorem sc_names_at : FnScope N_names_at ["moment"] (defScope s_names_at) := ⟨rfl, rfl, rfl, by decide +kernel, rfl, by decide +kernel, by decide +kernel⟩
abbrev s_heard_at : Stmt := topS 53
abbrev N_heard_at : List Str := ["moment", "names", "heard", "name", "rows"]
theorem sc_heard_at : FnScope N_heard_at ["moment", "names"] (defScope s_heard_at) := ⟨rfl, rfl, rfl, by decide +kernel, rfl, by decide +kernel, by decide +kernel⟩
abbrev s_known_at : Stmt := topS 54
abbrev N_known_at : List Str := ["moment", "names"]
theorem sc_known_at : FnScope N_known_at ["moment", "names"] (defScope s_known_at) := ⟨rfl, rfl, rfl, by decide +kernel, rfl, by decide +kernel, by decide +kernel⟩
abbrev s_gained : Stmt := topS 56
abbrev N_gained : List Str := ["ahead", "later", "pairs", "name", "more"]
theorem sc_gained : FnScope N_gained ["ahead", "later"] (defScope s_gained) := ⟨rfl, rfl, rfl, by decide +kernel, rfl, by decide +kernel, by decide +kernel⟩
abbrev s_after_call : Stmt := topS 59
abbrev N_after_call : List Str := ["moment", "hand", "row", "name", "rows", "hands"]
theorem sc_after_call : FnScope N_after_call ["moment", "hand", "row"] (defScope s_after_call) := ⟨rfl, rfl, rfl, by decide +kernel, rfl, by decide +kernel, by decide +kernel⟩
abbrev s_after_whisper : Stmt := topS 60
abbrev N_after_whisper : List Str := ["moment", "hands", "row", "name", "rows", "told"]
theorem sc_after_whisper : FnScope N_after_whisper ["moment", "hands", "row"] (defScope s_after_whisper) := ⟨rfl, rfl, rfl, by decide +kernel, rfl, by decide +kernel, by decide +kernel⟩
abbrev s_after : Stmt := topS 70
abbrev N_after : List Str := ["moment", "deed", "step", "things"]
theorem sc_after : FnScope N_after ["moment", "deed"] (defScope s_after) := ⟨rfl, rfl, rfl, by decide +kernel, rfl, by decide +kernel, by decide +kernel⟩
abbrev s__law_deck : Stmt := topS 75
abbrev N__law_deck : List Str := ["_law_script", "_law_cell"]
theorem sc__law_deck : FnScope N__law_deck ["_law_script"] (defScope s__law_deck) := ⟨rfl, rfl, rfl, by decide +kernel, rfl, by decide +kernel, by decide +kernel⟩
abbrev s__law_draw : Stmt := topS 76
abbrev N__law_draw : List Str := ["_law_deck_here", "_law_many", "_law_cell", "_law_place"]
theorem sc__law_draw : FnScope N__law_draw ["_law_deck_here", "_law_many"] (defScope s__law_draw) := ⟨rfl, rfl, rfl, by decide +kernel, rfl, by decide +kernel, by decide +kernel⟩
abbrev s__law_prime : Stmt := topS 77
abbrev N__law_prime : List Str := ["_law_deck_here"]
theorem sc__law_prime : FnScope N__law_prime ["_law_deck_here"] (defScope s__law_prime) := ⟨rfl, rfl, rfl, by decide +kernel, rfl, by decide +kernel, by decide +kernel⟩
abbrev s__law_row : Stmt := topS 78
abbrev N__law_row : List Str := ["_law_deck_here", "_law_p", "_law_n", "_law_place"]
theorem sc__law_row : FnScope N__law_row ["_law_deck_here", "_law_p", "_law_n"] (defScope s__law_row) := ⟨rfl, rfl, rfl, by decide +kernel, rfl, by decide +kernel, by decide +kernel⟩
abbrev s__law_plus : Stmt := topS 79
abbrev N__law_plus : List Str := ["_law_p", "_law_one", "_law_other", "_law_many", "_law_left", "_law_right"]
theorem sc__law_plus : FnScope N__law_plus ["_law_p", "_law_one", "_law_other", "_law_many"] (defScope s__law_plus) := ⟨rfl, rfl, rfl, by decide +kernel, rfl, by decide +kernel, by decide +kernel⟩
abbrev s__law_mixed : Stmt := topS 80
abbrev N__law_mixed : List Str := ["_law_deck_here", "_law_p", "_law_n", "_law_rows_here", "_law_found", "_law_row_here"]
theorem sc__law_mixed : FnScope N__law_mixed ["_law_deck_here", "_law_p", "_law_n", "_law_rows_here"] (defScope s__law_mixed) := ⟨rfl, rfl, rfl, by decide +kernel, rfl, by decide +kernel, by decide +kernel⟩
abbrev s__law_rows : Stmt := topS 81
abbrev N__law_rows : List Str := ["_law_deck_here", "_law_p", "_law_n", "_law_upto", "_law_found", "_law_k", "_law_way"]
theorem sc__law_rows : FnScope N__law_rows ["_law_deck_here", "_law_p", "_law_n", "_law_upto"] (defScope s__law_rows) := ⟨rfl, rfl, rfl, by decide +kernel, rfl, by decide +kernel, by decide +kernel⟩
abbrev s__law_contrary : Stmt := topS 82
abbrev N__law_contrary : List Str := ["_law_p", "_law_a", "_law_b"]
theorem sc__law_contrary : FnScope N__law_contrary ["_law_p", "_law_a"] (defScope s__law_contrary) := ⟨rfl, rfl, rfl, by decide +kernel, rfl, by decide +kernel, by decide +kernel⟩
abbrev s__law_less : Stmt := topS 83
abbrev N__law_less : List Str := ["_law_p", "_law_row_here", "_law_own", "_law_place", "_law_rest", "_law_mine"]
theorem sc__law_less : FnScope N__law_less ["_law_p", "_law_row_here", "_law_own", "_law_place"] (defScope s__law_less) := ⟨rfl, rfl, rfl, by decide +kernel, rfl, by decide +kernel, by decide +kernel⟩
abbrev s__law_plain : Stmt := topS 84
abbrev N__law_plain : List Str := ["_law_p", "_law_n", "_law_rows_here", "_law_row_here", "_law_left", "_law_found", "_law_place", "_law_some", "_law_part", "_law_rest", "_law_own"]
theorem sc__law_plain : FnScope N__law_plain ["_law_p", "_law_n", "_law_rows_here"] (defScope s__law_plain) := ⟨rfl, rfl, rfl, by decide +kernel, rfl, by decide +kernel, by decide +kernel⟩
abbrev s__law_turned : Stmt := topS 85
abbrev N__law_turned : List Str := ["_law_deck_here", "_law_things", "_law_left", "_law_thing"]
theorem sc__law_turned : FnScope N__law_turned ["_law_deck_here", "_law_things"] (defScope s__law_turned) := ⟨rfl, rfl, rfl, by decide +kernel, rfl, by decide +kernel, by decide +kernel⟩
abbrev s__law_names : Stmt := topS 86
abbrev N__law_names : List Str := ["_law_deck_here", "_law_many", "_law_letters", "_law_k", "_law_stem", "_law_at", "_law_first"]
theorem sc__law_names : FnScope N__law_names ["_law_deck_here", "_law_many"] (defScope s__law_names) := ⟨rfl, rfl, rfl, by decide +kernel, rfl, by decide +kernel, by decide +kernel⟩
abbrev s__law_stand : Stmt := topS 87
abbrev N__law_stand : List Str := ["_law_deck_here", "_law_p", "_law_n", "_law_many", "_law_pool", "_law_open_room", "_law_hands", "_law_name", "_law_rows_here", "_law_k"]
theorem sc__law_stand : FnScope N__law_stand ["_law_deck_here", "_law_p", "_law_n", "_law_many"] (defScope s__law_stand) := ⟨rfl, rfl, rfl, by decide +kernel, rfl, by decide +kernel, by decide +kernel⟩
abbrev s__law_has : Stmt := topS 88
abbrev N__law_has : List Str := ["_law_p", "_law_n", "_law_rows_here", "_law_row_here"]
theorem sc__law_has : FnScope N__law_has ["_law_p", "_law_n", "_law_rows_here", "_law_row_here"] (defScope s__law_has) := ⟨rfl, rfl, rfl, by decide +kernel, rfl, by decide +kernel, by decide +kernel⟩
abbrev s__law_calls : Stmt := topS 89
abbrev N__law_calls : List Str := ["_law_deck_here", "_law_stand_here", "_law_p", "_law_n", "_law_open_room", "_law_hands", "_law_found", "_law_k", "_law_name", "_law_room"]
theorem sc__law_calls : FnScope N__law_calls ["_law_deck_here", "_law_stand_here"] (defScope s__law_calls) := ⟨rfl, rfl, rfl, by decide +kernel, rfl, by decide +kernel, by decide +kernel⟩
abbrev s__law_callers : Stmt := topS 90
abbrev N__law_callers : List Str := ["_law_stand_here", "_law_row_here", "_law_name", "_law_room"]
theorem sc__law_callers : FnScope N__law_callers ["_law_stand_here", "_law_row_here"] (defScope s__law_callers) := ⟨rfl, rfl, rfl, by decide +kernel, rfl, by decide +kernel, by decide +kernel⟩
abbrev s__law_otherwise : Stmt := topS 91
abbrev N__law_otherwise : List Str := ["_law_deck_here", "_law_stand_here", "_law_calls_here", "_law_p", "_law_n", "_law_open_room", "_law_hands", "_law_found", "_law_name", "_law_row_here", "_law_callers_here", "_law_own"]
theorem sc__law_otherwise : FnScope N__law_otherwise ["_law_deck_here", "_law_stand_here", "_law_calls_here"] (defScope s__law_otherwise) := ⟨rfl, rfl, rfl, by decide +kernel, rfl, by decide +kernel, by decide +kernel⟩
abbrev s__law_behind : Stmt := topS 92
abbrev N__law_behind : List Str := ["_law_stand_here", "_law_calls_here", "_law_name", "_law_row_here"]
theorem sc__law_behind : FnScope N__law_behind ["_law_stand_here", "_law_calls_here"] (defScope s__law_behind) := ⟨rfl, rfl, rfl, by decide +kernel, rfl, by decide +kernel, by decide +kernel⟩
abbrev s__law_due : Stmt := topS 93
abbrev N__law_due : List Str := ["_law_stand_here", "_law_calls_here", "_law_p", "_law_n", "_law_open_room", "_law_hands", "_law_name", "_law_row_here", "_law_rows_here", "_law_room", "_law_found"]
theorem sc__law_due : FnScope N__law_due ["_law_stand_here", "_law_calls_here"] (defScope s__law_due) := ⟨rfl, rfl, rfl, by decide +kernel, rfl, by decide +kernel, by decide +kernel⟩
abbrev s__law_learned : Stmt := topS 94
abbrev N__law_learned : List Str := ["_law_stand_here", "_law_calls_here", "_law_p", "_law_n", "_law_open_room", "_law_hands", "_law_book", "_law_row_here", "_law_name", "_law_room", "_law_found", "_law_number", "_law_many"]
theorem sc__law_learned : FnScope N__law_learned ["_law_stand_here", "_law_calls_here"] (defScope s__law_learned) := ⟨rfl, rfl, rfl, by decide +kernel, rfl, by decide +kernel, by decide +kernel⟩
abbrev s_law : Stmt := topS 95
abbrev N_law : List Str := ["_law_script", "_law_deck_here", "_law_turn", "_law_p", "_law_stand_here", "_law_calls_here", "_law_last", "_law_k", "_law_others", "_law_far"]
theorem sc_law : FnScope N_law ["_law_script"] (defScope s_law) := ⟨rfl, rfl, rfl, by decide +kernel, rfl, by decide +kernel, by decide +kernel⟩
abbrev s_Moment___init__ : Stmt := inClass (topS 51) 0
abbrev N_Moment___init__ : List Str := ["self", "p", "n", "called", "hands"]
theorem sc_Moment___init__ : FnScope N_Moment___init__ ["self", "p", "n", "called", "hands"] (defScope s_Moment___init__) := ⟨rfl, rfl, rfl, by decide +kernel, rfl, by decide +kernel, by decide +kernel⟩
abbrev s_Book___init__ : Stmt := inClass (topS 73) 0
abbrev N_Book___init__ : List Str := ["self", "p", "n", "hands"]
theorem sc_Book___init__ : FnScope N_Book___init__ ["self", "p", "n", "hands"] (defScope s_Book___init__) := ⟨rfl, rfl, rfl, by decide +kernel, rfl, by decide +kernel, by decide +kernel⟩
abbrev s_Book___len__ : Stmt := inClass (topS 73) 2
abbrev N_Book___len__ : List Str := ["self"]
theorem sc_Book___len__ : FnScope N_Book___len__ ["self"] (defScope s_Book___len__) := ⟨rfl, rfl, rfl, by decide +kernel, rfl, by decide +kernel, by decide +kernel⟩
abbrev s_Book_now : Stmt := inClass (topS 73) 4
abbrev N_Book_now : List Str := ["self"]
theorem sc_Book_now : FnScope N_Book_now ["self"] (defScope s_Book_now) := ⟨rfl, rfl, rfl, by decide +kernel, rfl, by decide +kernel, by decide +kernel⟩
abbrev s_Book_refuse_amid : Stmt := inClass (topS 73) 5
abbrev N_Book_refuse_amid : List Str := ["self"]
theorem sc_Book_refuse_amid : FnScope N_Book_refuse_amid ["self"] (defScope s_Book_refuse_amid) := ⟨rfl, rfl, rfl, by decide +kernel, rfl, by decide +kernel, by decide +kernel⟩
abbrev s_Book_perform : Stmt := inClass (topS 73) 6
abbrev N_Book_perform : List Str := ["self", "deed", "moment"]
theorem sc_Book_perform : FnScope N_Book_perform ["self", "deed"] (defScope s_Book_perform) := ⟨rfl, rfl, rfl, by decide +kernel, rfl, by decide +kernel, by decide +kernel⟩
abbrev s_Book_call : Stmt := inClass (topS 73) 7
abbrev N_Book_call : List Str := ["self", "hand", "row"]
theorem sc_Book_call : FnScope N_Book_call ["self", "hand", "row"] (defScope s_Book_call) := ⟨rfl, rfl, rfl, by decide +kernel, rfl, by decide +kernel, by decide +kernel⟩
abbrev s_Book_learned : Stmt := inClass (topS 73) 26
abbrev N_Book_learned : List Str := ["self", "number"]
theorem sc_Book_learned : FnScope N_Book_learned ["self", "number"] (defScope s_Book_learned) := ⟨rfl, rfl, rfl, by decide +kernel, rfl, by decide +kernel, by decide +kernel⟩
abbrev s_Book_idle : Stmt := inClass (topS 73) 27
abbrev N_Book_idle : List Str := ["self", "number", "deed"]
theorem sc_Book_idle : FnScope N_Book_idle ["self"] (defScope s_Book_idle) := ⟨rfl, rfl, rfl, by decide +kernel, rfl, by decide +kernel, by decide +kernel⟩
abbrev s_Book_is_idle : Stmt := inClass (topS 73) 28
abbrev N_Book_is_idle : List Str := ["self", "number", "deed", "moment"]
theorem sc_Book_is_idle : FnScope N_Book_is_idle ["self", "number", "deed"] (defScope s_Book_is_idle) := ⟨rfl, rfl, rfl, by decide +kernel, rfl, by decide +kernel, by decide +kernel⟩
structure Top (K : PySem.W.Frag) (mg : Str → Option Value) : Prop where
  b_abs : mg "abs" = none
  b_all : mg "all" = none
  b_bool : mg "bool" = none
  b_enumerate : mg "enumerate" = none
  b_int : mg "int" = none
  b_isinstance : mg "isinstance" = none
  b_len : mg "len" = none
  b_list : mg "list" = none
  b_range : mg "range" = none
  b_repr : mg "repr" = none
  b_sorted : mg "sorted" = none
  b_str : mg "str" = none
  b_tuple : mg "tuple" = none
  b_zip : mg "zip" = none
  c_LETTERS : ∃ t, mg "LETTERS" = some (.str "abcdefghijklmnopqrstuvwxyz" t)
  c_DEEDS : ∃ t, mg "DEEDS" = some (.int 60 t)
  k_Moment : ClsN K mg "Moment"
  na_Moment_p : NoAttr K (adr mg "Moment") "p"
  na_Moment_n : NoAttr K (adr mg "Moment") "n"
  na_Moment_called : NoAttr K (adr mg "Moment") "called"
  na_Moment_hands : NoAttr K (adr mg "Moment") "hands"
  k_Book : ClsN K mg "Book"
  na_Book_made : NoAttr K (adr mg "Book") "made"
  na_Book_moments : NoAttr K (adr mg "Book") "moments"
  na_Book_done : NoAttr K (adr mg "Book") "done"
  na_Book_trials : NoAttr K (adr mg "Book") "trials"
  na_Book_amid : NoAttr K (adr mg "Book") "amid"
  d_Moment___init__ : DfM K mg "Moment" "__init__" "Moment.__init__" s_Moment___init__ ["self", "p", "n", "called", "hands"] []
  d_Book___init__ : DfM K mg "Book" "__init__" "Book.__init__" s_Book___init__ ["self", "p", "n", "hands"] []
  d_Book___len__ : DfM K mg "Book" "__len__" "Book.__len__" s_Book___len__ ["self"] []
  d_Book_now : DfM K mg "Book" "now" "Book.now" s_Book_now ["self"] []
  d_Book_refuse_amid : DfM K mg "Book" "refuse_amid" "Book.refuse_amid" s_Book_refuse_amid ["self"] []
  d_Book_perform : DfM K mg "Book" "perform" "Book.perform" s_Book_perform ["self", "deed"] []
  d_Book_call : DfM K mg "Book" "call" "Book.call" s_Book_call ["self", "hand", "row"] []
  d_Book_learned : DfM K mg "Book" "learned" "Book.learned" s_Book_learned ["self", "number"] []
  d_Book_idle : DfM K mg "Book" "idle" "Book.idle" s_Book_idle ["self"] []
  d_Book_is_idle : DfM K mg "Book" "is_idle" "Book.is_idle" s_Book_is_idle ["self", "number", "deed"] []
  d_is_name : Df K mg "is_name" s_is_name ["thing"]
  d_is_rising : Df K mg "is_rising" s_is_rising ["things"]
  d_are_names : Df K mg "are_names" s_are_names ["thing"]
  d_is_number : Df K mg "is_number" s_is_number ["thing"]
  d_is_rest : Df K mg "is_rest" s_is_rest ["p", "thing"]
  d_contrary : Df K mg "contrary" s_contrary ["p", "a"]
  d_is_row : Df K mg "is_row" s_is_row ["p", "n", "thing"]
  d_added : Df K mg "added" s_added ["p", "one", "other"]
  d_times : Df K mg "times" s_times ["p", "a", "row"]
  d_check_hand : Df K mg "check_hand" s_check_hand ["there", "hand"]
  d_check_hands : Df K mg "check_hands" s_check_hands ["there", "hands", "least"]
  d_check_row : Df K mg "check_row" s_check_row ["p", "n", "row"]
  d_is_noughts : Df K mg "is_noughts" s_is_noughts ["row"]
  d_first_place : Df K mg "first_place" s_first_place ["row"]
  d_cleared : Df K mg "cleared" s_cleared ["p", "plain", "row"]
  d_left_of : Df K mg "left_of" s_left_of ["p", "room", "row"]
  d_widened : Df K mg "widened" s_widened ["p", "room", "row"]
  d_room_of : Df K mg "room_of" s_room_of ["p", "n", "rows"]
  d_within : Df K mg "within" s_within ["p", "room", "row"]
  d_names_of : Df K mg "names_of" s_names_of ["stand"]
  d_room_in : Df K mg "room_in" s_room_in ["stand", "names"]
  d_behind : Df K mg "behind" s_behind ["stand", "hand", "row"]
  d_names_at : Df K mg "names_at" s_names_at ["moment"]
  d_heard_at : Df K mg "heard_at" s_heard_at ["moment", "names"]
  d_known_at : Df K mg "known_at" s_known_at ["moment", "names"]
  d_gained : Df K mg "gained" s_gained ["ahead", "later"]
  d_after_call : Df K mg "after_call" s_after_call ["moment", "hand", "row"]
  d_after_whisper : Df K mg "after_whisper" s_after_whisper ["moment", "hands", "row"]
  d_after : Df K mg "after" s_after ["moment", "deed"]
  d__law_deck : Df K mg "_law_deck" s__law_deck ["_law_script"]
  d__law_draw : Df K mg "_law_draw" s__law_draw ["_law_deck_here", "_law_many"]
  d__law_prime : Df K mg "_law_prime" s__law_prime ["_law_deck_here"]
  d__law_row : Df K mg "_law_row" s__law_row ["_law_deck_here", "_law_p", "_law_n"]
  d__law_plus : Df K mg "_law_plus" s__law_plus ["_law_p", "_law_one", "_law_other", "_law_many"]
  d__law_mixed : Df K mg "_law_mixed" s__law_mixed ["_law_deck_here", "_law_p", "_law_n", "_law_rows_here"]
  d__law_rows : Df K mg "_law_rows" s__law_rows ["_law_deck_here", "_law_p", "_law_n", "_law_upto"]
  d__law_contrary : Df K mg "_law_contrary" s__law_contrary ["_law_p", "_law_a"]
  d__law_less : Df K mg "_law_less" s__law_less ["_law_p", "_law_row_here", "_law_own", "_law_place"]
  d__law_plain : Df K mg "_law_plain" s__law_plain ["_law_p", "_law_n", "_law_rows_here"]
  d__law_turned : Df K mg "_law_turned" s__law_turned ["_law_deck_here", "_law_things"]
  d__law_names : Df K mg "_law_names" s__law_names ["_law_deck_here", "_law_many"]
  d__law_stand : Df K mg "_law_stand" s__law_stand ["_law_deck_here", "_law_p", "_law_n", "_law_many"]
  d__law_has : Df K mg "_law_has" s__law_has ["_law_p", "_law_n", "_law_rows_here", "_law_row_here"]
  d__law_calls : Df K mg "_law_calls" s__law_calls ["_law_deck_here", "_law_stand_here"]
  d__law_callers : Df K mg "_law_callers" s__law_callers ["_law_stand_here", "_law_row_here"]
  d__law_otherwise : Df K mg "_law_otherwise" s__law_otherwise ["_law_deck_here", "_law_stand_here", "_law_calls_here"]
  d__law_behind : Df K mg "_law_behind" s__law_behind ["_law_stand_here", "_law_calls_here"]
  d__law_due : Df K mg "_law_due" s__law_due ["_law_stand_here", "_law_calls_here"]
  d__law_learned : Df K mg "_law_learned" s__law_learned ["_law_stand_here", "_law_calls_here"]
section
variable {P : Program} {w : World} {K : PySem.W.Frag} {mg : Str → Option Value} {base : Heap}
def sp_whole (K : PySem.W.Frag) : Sp := fun vs H Q _ => ∃ (v : V) (k : Kd), vs = [v] ∧ KdOf K H v k ∧ Q (.bl (decide (k = .int))) H
def sp_contr : Sp := fun vs H Q _ => ∃ p a : Int, vs = [.int p, .int a] ∧ Fld p ∧ p ≤ 1000 ∧ 1 ≤ a ∧ a < p ∧ Q (.int (ctr p a)) H
theorem ok_contrary (T : Top K mg) : Ok P w K mg base 1 "contrary" ["p", "a"] sp_contr := by
  refine T.d_contrary.ok sc_contrary (fun vs H Q E h => ?_) (fun f cdv A outer s H vs Q E hr h => ?_)
  · obtain ⟨p, a, rfl, _⟩ := h
    rfl
  · obtain ⟨p, a, rfl, hF, h2, h3, h4, q⟩ := h
    have h1 := hF.1
    refine ⟨_, ((pss_cons (ps_for PassesOwn.never (by rfl) (pi_range2 (by rfl) T.b_range (pa_cons pe_int (pa_cons (pv 0) pa_nil))) (pg_name (i := 2) sc_contrary.nd rfl (.inl rfl))
        (pss_one (ps_if (pt_cmpR op_eq (pe_op op_mod (pe_op op_mul (pv 1) (pv 2)) (pv 0)) pe_int (nomark _))
          (pss_one (ps_ret (pv 2)))
          pss_nil)))
      (pss_one (ps_ret pe_non)))), ?_⟩
    refine ⟨.int p, rfl, 1, p, rfl, ⟨by omega, by omega, by omega, by omega⟩, for_range (lo := 1) (n := (p - 1).toNat) (fun i σ H' => H' = H ∧ (∃ y, σ = [some (.int p), some (.int a), y]) ∧ ∀ b : Int, 1 ≤ b → b < 1 + i → a * b % p ≠ 1) ⟨rfl, ⟨none, rfl⟩, fun b _ _ => by omega⟩ (fun i σ H' hi hW => ?_) (fun σ H' hW => ?_)⟩
    · obtain ⟨rfl, ⟨y, rfl⟩, hn⟩ := hW
      refine ⟨.int a, rfl, .int (1 + i), rfl, a, 1 + i, rfl, rfl, .inl ⟨by omega, by omega⟩, .int p, rfl, _, p, rfl, rfl, by omega, rfl, _, rfl, ite2 (fun e => ?_) (fun e => ?_)⟩
      · have e1 : a * (1 + i) % p = 1 := V.int.inj (of_decide_eq_true e)
        refine ⟨.int (1 + i), rfl, ?_⟩
        rw [ctr_uniq hF h3 h4 (show (1 : Int) ≤ 1 + i by omega) (by omega) e1]
        exact q
      · have e1 : a * (1 + i) % p ≠ 1 := fun z => e (decide_eq_true (congrArg V.int z))
        refine ⟨rfl, ⟨_, rfl⟩, fun b hb1 hb2 => ?_⟩
        by_cases z : b = 1 + i
        · subst z; exact e1
        · exact hn b hb1 (by omega)
    · obtain ⟨rfl, ⟨y, rfl⟩, hn⟩ := hW
      obtain ⟨b, b1, b2, b3⟩ := hF.2 a h3 h4
      exact absurd b3 (hn b b1 (by omega))
def sp_added (K : PySem.W.Frag) : Sp := fun vs H Q _ => ∃ (a b : Addr) (x y : List Int) (p : Int), vs = [.int p, .ref a, .ref b] ∧ SqT K H a (x.map V.int) ∧ SqT K H b (y.map V.int) ∧ x.length ≤ 1000 ∧ 0 < p ∧
  ∀ H' l, Same H H' → H l = none → H' l = some (.tup ((addR p x y).map V.int)) → Q (.ref l) H'
theorem ok_added (T : Top K mg) : Ok P w K mg base 1 "added" ["p", "one", "other"] (sp_added K) := by
  refine T.d_added.ok sc_added (fun vs H Q E h => ?_) (fun f cdv A outer s H vs Q E hr h => ?_)
  · obtain ⟨a, b, x, y, p, rfl, _⟩ := h
    rfl
  · obtain ⟨a, b, x, y, p, rfl, hA, hB, hz, hp, q⟩ := h
    refine ⟨_, ((pss_one (ps_ret (pe_callTy call_tuple_of (by rfl) T.b_tuple (by decide +kernel) (pa_cons (pe_lc (own := [("a", 3), ("b", 4)]) (g := gTup K 2 (gCons (gName 3) (gCons (gName 4) gNil))) (by rfl) sc_added.nd (RZ.pi_zipA (by rfl) T.b_zip (pa_cons (pv 1) (pa_cons (pv 2) pa_nil))) (blkOk_by (own := [("a", 3), ("b", 4)]) (N := N_added) (sc := defScope s_added) (by decide +kernel)) (fun _ _ _ _ _ => (pg_tup (by rfl) (pgs_cons (pg_name (i := 3) sc_added.nd rfl (.inl rfl)) (pgs_cons (pg_name (i := 4) sc_added.nd rfl (.inl rfl)) pgs_nil)))) (fun _ _ _ _ _ => pts_nil) (fun _ _ _ _ _ => (pe_op op_mod (pe_op op_add (pv 3) (pv 4)) (pv 0)))) pa_nil))))), ?_⟩
    refine ⟨.ref a, rfl, .ref b, rfl, a, b, _, _, rfl, .inr ⟨hA, hB, lc_zipI (fun u v => (u + v) % p) hA hB hz (fun _ _ => rfl) (fun u v H' Q' _ _ _ hQ => ?_) (fun D H' sm nD eD => ?_)⟩⟩
    · exact ⟨.int u, rfl, .int v, rfl, u, v, rfl, rfl, .int p, rfl, _, p, rfl, rfl, hp, hQ⟩
    · refine ⟨D, _, rfl, .inl ⟨.inl (.inl eD), fun l nl => ?_⟩⟩
      exact q _ l (sm.trans (same_upd nl)) (sm.free nl) upd_same
def sp_times (K : PySem.W.Frag) : Sp := fun vs H Q _ => ∃ (b : Addr) (x : List Int) (p m : Int), vs = [.int p, .int m, .ref b] ∧ SqT K H b (x.map V.int) ∧ x.length ≤ 1000 ∧ 0 < p ∧ -1000000 ≤ m ∧ m ≤ 1000000 ∧
  ∀ H' l, Same H H' → H l = none → H' l = some (.tup ((timesR p m x).map V.int)) → Q (.ref l) H'
theorem ok_times (T : Top K mg) : Ok P w K mg base 1 "times" ["p", "a", "row"] (sp_times K) := by
  refine T.d_times.ok sc_times (fun vs H Q E h => ?_) (fun f cdv A outer s H vs Q E hr h => ?_)
  · obtain ⟨b, x, p, m, rfl, _⟩ := h
    rfl
  · obtain ⟨b, x, p, m, rfl, hB, hz, hp, hm1, hm2, q⟩ := h
    refine ⟨_, ((pss_one (ps_ret (pe_callTy call_tuple_of (by rfl) T.b_tuple (by decide +kernel) (pa_cons (pe_lc (own := [("rest", 3)]) (g := gName 3) (by rfl) sc_times.nd (pi_tup (pv 2)) (blkOk_by (own := [("rest", 3)]) (N := N_times) (sc := defScope s_times) (by decide +kernel)) (fun _ _ _ _ _ => (pg_name (i := 3) sc_times.nd rfl (.inl rfl))) (fun _ _ _ _ _ => pts_nil) (fun _ _ _ _ _ => (pe_op op_mod (pe_op op_mul (pv 1) (pv 3)) (pv 0)))) pa_nil))))), ?_⟩
    refine ⟨.ref b, rfl, b, rfl, ⟨_, hB⟩, lc_tupI (fun v => m * v % p) hB hz (fun _ => rfl) (fun v H' Q' _ _ hQ => ?_) (fun D H' sm nD eD => ?_)⟩
    · exact ⟨.int m, rfl, .int v, rfl, m, v, rfl, rfl, .inl ⟨by omega, by omega⟩, .int p, rfl, _, p, rfl, rfl, hp, hQ⟩
    · refine ⟨D, _, rfl, .inl ⟨.inl (.inl eD), fun l nl => ?_⟩⟩
      exact q _ l (sm.trans (same_upd nl)) (sm.free nl) upd_same
theorem ok_is_number (T : Top K mg) : Ok P w K mg base 1 "is_number" ["thing"] (sp_whole K) := by
  refine T.d_is_number.ok sc_is_number (fun vs H Q E h => ?_) (fun f cdv A outer s H vs Q E hr h => ?_)
  · obtain ⟨v, k, rfl, _⟩ := h
    rfl
  · obtain ⟨v, k, rfl, ty, q⟩ := h
    refine ⟨_, ((pss_one (ps_ret (pe_and (pe_callB call_isi (by rfl) T.b_isinstance (by decide +kernel) (pa_cons (pv 0) (pa_cons (pe_bltn (v := .ty "int") (u := .type "int") (by rfl) T.b_int (by decide +kernel) rfl) pa_nil))) (pe_one (pe_not (pe_callB call_isi (by rfl) T.b_isinstance (by decide +kernel) (pa_cons (pv 0) (pa_cons (pe_bltn (v := .ty "bool") (u := .type "bool") (by rfl) T.b_bool (by decide +kernel) rfl) pa_nil))))))))), ?_⟩
    refine ⟨v, rfl, v, .ty "int", _, _, _, rfl, .ty "int", ty, kit_int k, _, rfl, ?_⟩
    cases k <;> first | exact q | exact ⟨v, rfl, v, .ty "bool", _, _, _, rfl, .ty "bool", ty, kit_bool _, _, rfl, q⟩
def sp_is_rest (K : PySem.W.Frag) : Sp := fun vs H Q _ => ∃ (p : Int) (v : V) (e : PyData), vs = [.int p, v] ∧ Rep K H NB v e ∧ Q (.bl (restD p e)) H
theorem ok_is_rest (T : Top K mg) : Ok P w K mg base 2 "is_rest" ["p", "thing"] (sp_is_rest K) := by
  have O_is_number := ok_is_number (P := P) (w := w) (base := base) T
  refine T.d_is_rest.ok sc_is_rest (fun vs H Q E h => ?_) (fun f cdv A outer s H vs Q E hr h => ?_)
  · obtain ⟨p, v, e, rfl, _⟩ := h
    rfl
  · obtain ⟨p, v, e, rfl, hv, q⟩ := h
    refine ⟨_, ((pss_one (ps_ret (pe_and (pe_callO O_is_number (hr.mono (by omega)) (by rfl) (pa_cons (pv 1) pa_nil)) (pe_one (pe_chain op_le op_lt pe_int (pv 1) (pv 0))))))), ?_⟩
    refine ⟨v, rfl, v, kdOf e, rfl, hv.kd, _, rfl, ?_⟩
    cases hv with
    | int i =>
      refine iteT ⟨.int i, rfl, 0, i, rfl, rfl, _, rfl, ?_⟩
      by_cases h0 : 0 ≤ i
      · rw [decide_eq_true h0]
        refine iteT ⟨.int p, rfl, i, p, rfl, rfl, ?_⟩
        have e : restD p (.int i) = decide (i < p) := by
          show (decide (0 ≤ i) && decide (i < p)) = decide (i < p)
          rw [decide_eq_true h0, Bool.true_and]
        rw [e] at q
        exact q
      · rw [decide_eq_false h0]
        refine iteF ?_
        have e : restD p (.int i) = false := by
          show (decide (0 ≤ i) && decide (i < p)) = false
          rw [decide_eq_false h0, Bool.false_and]
        rw [e] at q
        exact q
    | _ => exact iteF q
def sp_is_row (K : PySem.W.Frag) : Sp := fun vs H Q _ => ∃ (p n : Int) (v : V) (e : PyData), vs = [.int p, .int n, v] ∧ Rep K H NB v e ∧ lenOk e ∧ ∀ H', Same H H' → Q (.bl (isRowD p n e)) H'
theorem ok_is_row (T : Top K mg) : Ok P w K mg base 3 "is_row" ["p", "n", "thing"] (sp_is_row K) := by
  have O_is_rest := ok_is_rest (P := P) (w := w) (base := base) T
  refine T.d_is_row.ok sc_is_row (fun vs H Q E h => ?_) (fun f cdv A outer s H vs Q E hr h => ?_)
  · obtain ⟨p, n, v, e, rfl, _⟩ := h
    rfl
  · obtain ⟨p, n, v, e, rfl, hv, hl, q⟩ := h
    refine ⟨_, ((pss_one (ps_ret (pe_and (pe_callB call_isi (by rfl) T.b_isinstance (by decide +kernel) (pa_cons (pv 2) (pa_cons (pe_bltn (v := .ty "tuple") (u := .type "tuple") (by rfl) T.b_tuple (by decide +kernel) rfl) pa_nil))) (pe_and (pe_cmpR op_eq (pe_callB call_len_seq (by rfl) T.b_len (by decide +kernel) (pa_cons (pv 2) pa_nil)) (pv 1) (nomark _)) (pe_one (pe_callB (cr_all (by rfl)) (by rfl) T.b_all (by decide +kernel) (pa_cons (pe_lc (own := [("part", 3)]) (g := gName 3) (by rfl) sc_is_row.nd (pi_tup (pv 2)) (blkOk_by (own := [("part", 3)]) (N := N_is_row) (sc := defScope s_is_row) (by decide +kernel)) (fun _ _ _ _ _ => (pg_name (i := 3) sc_is_row.nd rfl (.inl rfl))) (fun _ _ _ _ _ => pts_nil) (fun _ _ _ _ _ => (pe_callO O_is_rest (hr.mono (by omega)) (by rfl) (pa_cons (pv 0) (pa_cons (pv 3) pa_nil))))) pa_nil)))))))), ?_⟩
    refine ⟨v, rfl, v, .ty "tuple", _, _, _, rfl, .ty "tuple", hv.kd, kit_tuple _, _, rfl, ?_⟩
    cases hv with
    | @tup a xs ds hA hx =>
      have lx := repAll_len hx
      have hl : ds.length ≤ 1000 := hl
      refine iteT ⟨.ref a, rfl, a, xs, rfl, .inr hA, .int n, rfl, rfl, _, rfl, ?_⟩
      by_cases hn : (ds.length : Int) = n
      · rw [decide_eq_true (show V.int ((xs.length : Nat) : Int) = V.int n by rw [lx, hn])]
        refine iteT ⟨.ref a, rfl, a, rfl, ⟨_, hA⟩, fun D nD => ?_⟩
        refine lc_it (walk_tup (K := K) (a := a) (xs := xs)) (fun k H' => Same H H' ∧ H' D = some (.lst (((ds.map (restD p)).take k).map V.bl))) ⟨same_mut (Same.refl H) nD, upd_same⟩ (fun k H' _ hP => Same.tup hP.1 hA) (fun k x H1 H2 hk hP hY => ?_) (fun H' hP => ?_)
        · obtain ⟨rfl, e1⟩ := hY
          obtain ⟨sm, eD⟩ := hP
          obtain ⟨e, g, _, rx⟩ := repAll_get hx e1
          refine ⟨rfl, .int p, rfl, x, rfl, p, x, e, rfl, rep_stays (Stays.of sm) _ _ rx, _, eD, ?_, same_mut sm nD, ?_⟩
          · rw [List.length_map, List.length_take, List.length_map]
            exact small1000 (by omega)
          · rw [upd_same, List.take_add_one, List.getElem?_map, g, List.map_append]
            rfl
        · obtain ⟨sm, eD⟩ := hP
          rw [List.take_of_length_le (by rw [List.length_map]; omega)] at eD
          refine ⟨D, ds.map (restD p), rfl, .inl (.inl eD), ?_⟩
          have e : isRowD p n (.tuple ds) = (ds.map (restD p)).all id := by
            show (decide ((ds.length : Int) = n) && ds.all (restD p)) = _
            rw [decide_eq_true hn, Bool.true_and, List.all_map]
            rfl
          have := q H' sm
          rw [e] at this
          exact this
      · rw [decide_eq_false (show ¬ V.int ((xs.length : Nat) : Int) = V.int n from fun z => hn (by rw [← lx]; exact V.int.inj z))]
        refine iteF ?_
        have e : isRowD p n (.tuple ds) = false := by
          show (decide ((ds.length : Int) = n) && ds.all (restD p)) = false
          rw [decide_eq_false hn, Bool.false_and]
        have := q H (Same.refl H)
        rw [e] at this
        exact this
    | _ => exact iteF (q H (Same.refl H))
def sp_noughts (K : PySem.W.Frag) : Sp := fun vs H Q _ => ∃ (a : Addr) (r : List Int), vs = [.ref a] ∧ SqT K H a (r.map V.int) ∧ r.length ≤ 1000 ∧ ∀ H', Same H H' → Q (.bl (r.all fun x => decide (x = 0))) H'
theorem ok_is_noughts (T : Top K mg) : Ok P w K mg base 1 "is_noughts" ["row"] (sp_noughts K) := by
  refine T.d_is_noughts.ok sc_is_noughts (fun vs H Q E h => ?_) (fun f cdv A outer s H vs Q E hr h => ?_)
  · obtain ⟨a, r, rfl, _⟩ := h
    rfl
  · obtain ⟨a, r, rfl, hA, hl, q⟩ := h
    refine ⟨_, ((pss_one (ps_ret (pe_callB (cr_all (by rfl)) (by rfl) T.b_all (by decide +kernel) (pa_cons (pe_lc (own := [("rest", 1)]) (g := gName 1) (by rfl) sc_is_noughts.nd (pi_tup (pv 0)) (blkOk_by (own := [("rest", 1)]) (N := N_is_noughts) (sc := defScope s_is_noughts) (by decide +kernel)) (fun _ _ _ _ _ => (pg_name (i := 1) sc_is_noughts.nd rfl (.inl rfl))) (fun _ _ _ _ _ => pts_nil) (fun _ _ _ _ _ => (pe_cmpR op_eq (pv 1) pe_int (nomark _)))) pa_nil))))), ?_⟩
    refine ⟨.ref a, rfl, a, rfl, ⟨_, hA⟩, fun D nD => ?_⟩
    refine lc_it (walk_tup (K := K) (a := a) (xs := r.map V.int)) (fun k H' => Same H H' ∧ H' D = some (.lst (((r.map fun x => decide (x = 0)).take k).map V.bl))) ⟨same_mut (Same.refl H) nD, upd_same⟩ (fun k H' _ hP => Same.tup hP.1 hA) (fun k x H1 H2 hk hP hY => ?_) (fun H' hP => ?_)
    · obtain ⟨rfl, e1⟩ := hY
      obtain ⟨sm, eD⟩ := hP
      rw [List.getElem?_map] at e1
      cases h1 : r[k]? with
      | none => rw [h1] at e1; cases e1
      | some z =>
        rw [h1] at e1
        have q1 : x = V.int z := (Option.some.inj e1).symm
        subst q1
        refine ⟨rfl, .int z, rfl, rfl, _, eD, ?_, same_mut sm nD, ?_⟩
        · rw [List.length_map, List.length_take, List.length_map]
          exact small1000 (by omega)
        · have ez : decide (V.int z = V.int 0) = decide (z = 0) := decide_eq_decide.mpr ⟨fun e => V.int.inj e, fun e => congrArg V.int e⟩
          rw [upd_same, List.take_add_one, List.getElem?_map, h1, List.map_append, ez]
          rfl
    · obtain ⟨sm, eD⟩ := hP
      rw [List.take_of_length_le (by rw [List.length_map, List.length_map]; exact Nat.le_refl _)] at eD
      refine ⟨D, _, rfl, .inl (.inl eD), ?_⟩
      have := q H' sm
      rw [show (r.all fun x => decide (x = 0)) = (r.map fun x => decide (x = 0)).all id by rw [List.all_map]; rfl] at this
      exact this
def sp_first (K : PySem.W.Frag) : Sp := fun vs H Q _ => ∃ (a : Addr) (r : List Int), vs = [.ref a] ∧ SqT K H a (r.map V.int) ∧ r.length ≤ 1000 ∧ (fpR r < r.length → ∀ H', Same H H' → Q (.int (fpR r : Int)) H') ∧ (fpR r = r.length → ∀ H', Same H H' → Q .non H')
theorem ok_first_place (T : Top K mg) : Ok P w K mg base 1 "first_place" ["row"] (sp_first K) := by
  refine T.d_first_place.ok sc_first_place (fun vs H Q E h => ?_) (fun f cdv A outer s H vs Q E hr h => ?_)
  · obtain ⟨a, r, rfl, _⟩ := h
    rfl
  · obtain ⟨a, r, rfl, hA, hl, q1, q2⟩ := h
    refine ⟨_, ((pss_cons (ps_for PassesOwn.never (by rfl) (pi_enumT (by rfl) T.b_enumerate (pa_cons (pv 0) pa_nil)) (pg_tup (by rfl) (pgs_cons (pg_name (i := 1) sc_first_place.nd rfl (.inl rfl)) (pgs_cons (pg_name (i := 2) sc_first_place.nd rfl (.inl rfl)) pgs_nil)))
        (pss_one (ps_if (pt_cmpR op_ne (pv 2) pe_int (nomark _))
          (pss_one (ps_ret (pv 1)))
          pss_nil)))
      (pss_one (ps_ret pe_non)))), ?_⟩
    refine ⟨.ref a, rfl, a, _, rfl, hA, for_it (walk_enumT (K := K) (a := a) (xs := r.map V.int)) (fun i σ H' => Same H H' ∧ (∀ j, j < i → r.getD j 0 = 0) ∧ ∃ y1 y2, σ = [some (.ref a), y1, y2]) ⟨Same.refl H, fun j hj => absurd hj (Nat.not_lt_zero _), none, none, rfl⟩ (fun i σ H' _ hW => Same.tup hW.1 hA) (fun i v σ H1 H2 hi hW hY => ?_) (fun σ H' hW => ?_)⟩
    · obtain ⟨sm, lo, y1, y2, rfl⟩ := hW
      obtain ⟨Ta, x, y, rfl, nT, rfl, g1, g2⟩ := hY
      rw [List.length_map] at hi
      have g1 : x = V.int (i : Nat) := (Option.some.inj g1).symm
      have g2 : (r.map V.int)[i]? = some y := g2
      rw [List.getElem?_map, List.getElem?_eq_getElem hi] at g2
      have g2 : y = V.int r[i] := (Option.some.inj g2).symm
      subst g1 g2
      have sT : Same H1 (upd H1 Ta (.tup [.int (i : Nat), .int r[i]])) := same_upd nT
      refine ⟨Ta, [.int (i : Nat), .int r[i]], rfl, .inl (.inl upd_same), rfl, .int (i : Nat), [.int r[i]], rfl, .int r[i], [], rfl, rfl, ?_⟩
      refine ⟨.int r[i], rfl, rfl, _, rfl, ite2 (fun e => ?_) (fun e => ?_)⟩
      · have nz : r.getD i 0 ≠ 0 := fun z => by
          rw [gd_lt hi] at z
          rw [z] at e
          cases e
        have ef := fpR_of nz lo
        refine ⟨.int (i : Nat), rfl, ?_⟩
        have := q1 (by omega) _ (sm.trans sT)
        rw [ef] at this
        exact this
      · refine ⟨sm.trans sT, fun j hj => ?_, _, _, rfl⟩
        by_cases ej : j = i
        · subst ej
          rw [gd_lt hi]
          apply Classical.byContradiction
          intro hn
          apply e
          rw [decide_eq_false (fun z => hn (V.int.inj z))]
          rfl
        · exact lo j (by omega)
    · obtain ⟨sm, lo, y1, y2, rfl⟩ := hW
      refine q2 ?_ _ sm
      rw [List.length_map] at lo
      rcases Nat.lt_or_ge (fpR r) r.length with h | h
      · exact absurd (lo _ h) (fpR_at h)
      · have := fpR_le r
        omega
def sp_cleared (K : PySem.W.Frag) : Sp := fun vs H Q _ => ∃ (a b : Addr) (r c : List Int) (p : Int) (n : Nat), vs = [.int p, .ref b, .ref a] ∧ SqT K H a (r.map V.int) ∧ SqT K H b (c.map V.int) ∧ RowsOk p n [r] ∧ c.length = n ∧ fpR c < n ∧ n ≤ 1000 ∧ 0 < p ∧ p ≤ 100000 ∧
  ∀ H' l, Same H H' → SqT K H' l ((lessR p r c (fpR c)).map V.int) → Q (.ref l) H'
theorem ok_cleared (T : Top K mg) : Ok P w K mg base 2 "cleared" ["p", "plain", "row"] (sp_cleared K) := by
  have O_first_place := ok_first_place (P := P) (w := w) (base := base) T
  have O_added := ok_added (P := P) (w := w) (base := base) T
  have O_times := ok_times (P := P) (w := w) (base := base) T
  refine T.d_cleared.ok sc_cleared (fun vs H Q E h => ?_) (fun f cdv A outer s H vs Q E hr h => ?_)
  · obtain ⟨a, b, r, c, p, n, rfl, _⟩ := h
    rfl
  · obtain ⟨a, b, r, c, p, n, rfl, hA, hB, okr, lc, hfp, hn, hp, hp2, q⟩ := h
    refine ⟨_, ((pss_cons (ps_set (i := 3) sc_cleared.nd rfl (.inl rfl) (pe_ix ix_tup (pv 2) (pe_callO O_first_place (hr.mono (by omega)) (by rfl) (pa_cons (pv 1) pa_nil)) (fun _ _ => rfl)))
      (pss_cons (ps_if (pt_cmpR op_eq (pv 3) pe_int (nomark _))
        (pss_one (ps_ret (pv 2)))
        pss_nil)
      (pss_one (ps_ret (pe_callO O_added (hr.mono (by omega)) (by rfl) (pa_cons (pv 0) (pa_cons (pv 2) (pa_cons (pe_callO O_times (hr.mono (by omega)) (by rfl) (pa_cons (pv 0) (pa_cons (pe_op op_sub (pv 0) (pv 3)) (pa_cons (pv 1) pa_nil)))) pa_nil))))))))), ?_⟩
    have okr := okr r List.mem_cons_self
    have bj := rowOk_getD okr hfp
    refine ⟨.ref a, rfl, .ref b, rfl, b, c, rfl, hB, by omega, fun hlt H1 s1 => ?_, fun e => by omega⟩
    refine ⟨a, _, _, _, rfl, rfl, Same.tup s1 hA, at_row (by rw [okr.1]; exact hfp), ?_⟩
    refine ⟨.int (r.getD (fpR c) 0), rfl, rfl, _, rfl, ite2 (fun e => ?_) (fun e => ?_)⟩
    · have z : r.getD (fpR c) 0 = 0 := V.int.inj (of_decide_eq_true e)
      refine ⟨.ref a, rfl, q H1 a s1 ?_⟩
      unfold lessR
      rw [z, less_zero r c (by rw [okr.1, lc]) okr.2]
      exact Same.tup s1 hA
    · refine ⟨.int p, rfl, .ref a, rfl, .int p, rfl, .int p, rfl, .int (r.getD (fpR c) 0), rfl, _, _, rfl, rfl, .ref b, rfl, b, c, p, _, rfl, Same.tup s1 hB, by omega, hp, by omega, by omega, fun H2 l2 s2 n2 e2 => ?_⟩
      refine ⟨a, l2, r, _, p, rfl, Same.tup (s1.trans s2) hA, .inl (.inl e2), by omega, hp, fun H3 l3 s3 n3 e3 => ?_⟩
      refine q H3 l3 ((s1.trans s2).trans s3) (.inl (.inl ?_))
      rw [less_eq] at e3
      exact e3
def sp_left (K : PySem.W.Frag) : Sp := fun vs H Q _ => ∃ (a b : Addr) (room : List (List Int)) (r : List Int) (p : Int) (n : Nat), vs = [.int p, .ref b, .ref a] ∧ RowsAt K H b room ∧ SqT K H a (r.map V.int) ∧ RowsOk p n room ∧ (∀ c ∈ room, fpR c < n) ∧ RowsOk p n [r] ∧ n ≤ 1000 ∧ 0 < p ∧ p ≤ 100000 ∧
  ∀ H' l, Same H H' → SqT K H' l ((leftR p room r).map V.int) → Q (.ref l) H'
theorem ok_left_of (T : Top K mg) : Ok P w K mg base 3 "left_of" ["p", "room", "row"] (sp_left K) := by
  have O_cleared := ok_cleared (P := P) (w := w) (base := base) T
  refine T.d_left_of.ok sc_left_of (fun vs H Q E h => ?_) (fun f cdv A outer s H vs Q E hr h => ?_)
  · obtain ⟨a, b, room, r, p, n, rfl, _⟩ := h
    rfl
  · obtain ⟨a, b, room, r, p, n, rfl, ⟨ws, hB, hR⟩, hA, ok, hfp, okr, hn, hp, hp2, q⟩ := h
    refine ⟨_, ((pss_cons (ps_for PassesOwn.never (by rfl) (pi_tup (pv 1)) (pg_name (i := 3) sc_left_of.nd rfl (.inl rfl))
        (pss_one (ps_set (i := 2) sc_left_of.nd rfl (.inl rfl) (pe_callO O_cleared (hr.mono (by omega)) (by rfl) (pa_cons (pv 0) (pa_cons (pv 3) (pa_cons (pv 2) pa_nil)))))))
      (pss_one (ps_ret (pv 2))))), ?_⟩
    have lw := rows_len hR
    refine ⟨.ref b, rfl, b, rfl, ⟨_, hB⟩, for_it (walk_tup (K := K) (a := b) (xs := ws)) (fun i σ H' => Same H H' ∧ ∃ (l : Addr) (y3 : Option V), SqT K H' l ((leftR p (room.take i) r).map V.int) ∧ σ = [some (.int p), some (.ref b), some (.ref l), y3]) ⟨Same.refl H, a, none, hA, rfl⟩ (fun i σ H' _ hW => Same.tup hW.1 hB) (fun i x σ H1 H2 hi hW hY => ?_) (fun σ H' hW => ?_)⟩
    · obtain ⟨sm, l, y3, hl, rfl⟩ := hW
      obtain ⟨rfl, e1⟩ := hY
      obtain ⟨c, rc, rfl, gr, mr, hc⟩ := dpAll_row (dpAll_same sm _ _ hR) e1
      have okc := ok rc mr
      refine ⟨.int p, rfl, .ref c, rfl, .ref l, rfl, l, c, leftR p (room.take i) r, rc, p, n, rfl, hl, hc, leftR_ok hp _ _ (fun x hx => ok x (List.mem_of_mem_take hx)) okr, okc.1, hfp rc mr, hn, hp, hp2, fun H3 l3 s3 h3 => ?_⟩
      refine ⟨sm.trans s3, l3, _, ?_, rfl⟩
      rw [leftR_take gr]
      exact h3
    · obtain ⟨sm, l, y3, hl, rfl⟩ := hW
      rw [List.take_of_length_le (by omega)] at hl
      exact ⟨.ref l, rfl, q H' l sm hl⟩
def sp_within (K : PySem.W.Frag) : Sp := fun vs H Q _ => ∃ (a b : Addr) (room : List (List Int)) (r : List Int) (p : Int) (n : Nat), vs = [.int p, .ref b, .ref a] ∧ RowsAt K H b room ∧ SqT K H a (r.map V.int) ∧ PFR p n room ∧ RowsOk p n [r] ∧ Fld p ∧ n ≤ 100 ∧ p ≤ 1000 ∧
  ∀ H', Same H H' → Q (.bl (hasR p n room r)) H'
theorem ok_within (T : Top K mg) : Ok P w K mg base 4 "within" ["p", "room", "row"] (sp_within K) := by
  have O_left_of := ok_left_of (P := P) (w := w) (base := base) T
  have O_is_noughts := ok_is_noughts (P := P) (w := w) (base := base) T
  refine T.d_within.ok sc_within (fun vs H Q E h => ?_) (fun f cdv A outer s H vs Q E hr h => ?_)
  · obtain ⟨a, b, room, r, p, n, rfl, _⟩ := h
    rfl
  · obtain ⟨a, b, room, r, p, n, rfl, hB, hA, pf, okr, hF, hn, hp, q⟩ := h
    have h2 := hF.1
    refine ⟨_, ((pss_one (ps_ret (pe_callO O_is_noughts (hr.mono (by omega)) (by rfl) (pa_cons (pe_callO O_left_of (hr.mono (by omega)) (by rfl) (pa_cons (pv 0) (pa_cons (pv 1) (pa_cons (pv 2) pa_nil)))) pa_nil))))), ?_⟩
    refine ⟨.int p, rfl, .ref b, rfl, .ref a, rfl, a, b, room, r, p, n, rfl, hB, hA, pf.1, pf.fp_lt hF, okr, by omega, by omega, by omega, fun H1 l s1 h1 => ?_⟩
    have okl := pf.left_ok hF okr _ List.mem_cons_self
    refine ⟨l, _, rfl, h1, by omega, fun H' s' => ?_⟩
    rw [hasR_iff hF pf okr]
    exact q H' (s1.trans s')
def sp_widened (K : PySem.W.Frag) : Sp := fun vs H Q _ => ∃ (a b : Addr) (room : List (List Int)) (r : List Int) (p : Int) (n : Nat), vs = [.int p, .ref b, .ref a] ∧ RowsAt K H b room ∧ SqT K H a (r.map V.int) ∧ PFR p n room ∧ RowsOk p n [r] ∧ Fld p ∧ 1 ≤ n ∧ n ≤ 100 ∧ p ≤ 1000 ∧
  ∀ H' l, Same H H' → RowsAt K H' l (plainR p n (room ++ [r])) → Q (.ref l) H'
theorem ok_widened (T : Top K mg) : Ok P w K mg base 4 "widened" ["p", "room", "row"] (sp_widened K) := by
  have O_left_of := ok_left_of (P := P) (w := w) (base := base) T
  have O_first_place := ok_first_place (P := P) (w := w) (base := base) T
  have O_times := ok_times (P := P) (w := w) (base := base) T
  have O_contrary := ok_contrary (P := P) (w := w) (base := base) T
  have O_cleared := ok_cleared (P := P) (w := w) (base := base) T
  refine T.d_widened.ok sc_widened (fun vs H Q E h => ?_) (fun f cdv A outer s H vs Q E hr h => ?_)
  · obtain ⟨a, b, room, r, p, n, rfl, _⟩ := h
    rfl
  · obtain ⟨a, b, room, r, p, n, rfl, hB, hA, pf, okr, hF, n1, hn, hp, q⟩ := h
    have h2 := hF.1
    have lroom : room.length ≤ n := by
      have := plainR_lenle hF pf.1
      rwa [pf.2] at this
    refine ⟨_, ((pss_cons (ps_set (i := 3) sc_widened.nd rfl (.inl rfl) (pe_callO O_left_of (hr.mono (by omega)) (by rfl) (pa_cons (pv 0) (pa_cons (pv 1) (pa_cons (pv 2) pa_nil)))))
      (pss_cons (ps_set (i := 4) sc_widened.nd rfl (.inl rfl) (pe_callO O_first_place (hr.mono (by omega)) (by rfl) (pa_cons (pv 3) pa_nil)))
      (pss_cons (ps_if (pt_cmpR op_isN (pv 4) pe_non (nomark _))
        (pss_one (ps_ret (pv 1)))
        pss_nil)
      (pss_cons (ps_set (i := 5) sc_widened.nd rfl (.inr rfl) (pe_callO O_times (hr.mono (by omega)) (by rfl) (pa_cons (pv 0) (pa_cons (pe_callO O_contrary (hr.mono (by omega)) (by rfl) (pa_cons (pv 0) (pa_cons (pe_ix ix_tup (pv 3) (pv 4) (fun _ _ => rfl)) pa_nil))) (pa_cons (pv 3) pa_nil)))))
      (pss_one (ps_ret (pe_callTy call_tuple_of (by rfl) T.b_tuple (by decide +kernel) (pa_cons (pe_callBK cr_sortTR (by rfl) T.b_sorted (by decide +kernel) (pa_cons (pe_op op_cat (pe_lst (pa_cons (pv 5) pa_nil)) (pe_lc (own := [("plain", 6)]) (g := gName 6) (by rfl) sc_widened.nd (pi_tup (pv 1)) (blkOk_by (own := [("plain", 6)]) (N := N_widened) (sc := defScope s_widened) (by decide +kernel)) (fun _ _ _ _ _ => (pg_name (i := 6) sc_widened.nd rfl (.inl rfl))) (fun _ _ _ _ _ => pts_nil) (fun _ _ _ _ _ => (pe_callO O_cleared (hr.mono (by omega)) (by rfl) (pa_cons (pv 0) (pa_cons (pv 5) (pa_cons (pv 6) pa_nil))))))) pa_nil) (pk_cons pe_bl pk_nil)) pa_nil))))))))), ?_⟩
    refine ⟨.int p, rfl, .ref b, rfl, .ref a, rfl, a, b, room, r, p, n, rfl, hB, hA, pf.1, pf.fp_lt hF, okr, by omega, by omega, by omega, fun H1 l s1 h1 => ?_⟩
    have okl := pf.left_ok hF okr _ List.mem_cons_self
    have wid := fun rs => pf.widen (rs := rs) hF okr
    have wid0 := pf.widen0 hF okr
    generalize hy : leftR p room r = y at h1 okl wid wid0
    refine ⟨.ref l, rfl, l, y, rfl, h1, by omega, fun hlt H2 s2 => ?_, fun e H2 s2 => ?_⟩
    · -- a fresh row
      refine ⟨.int (fpR y : Int), rfl, rfl, _, rfl, ?_⟩
      rw [decide_eq_false (fun z => by cases z)]
      refine iteF ?_
      rw [okl.1] at hlt
      have bj := rowOk_getD okl hlt
      have nz : y.getD (fpR y) 0 ≠ 0 := fpR_at (by rw [okl.1]; exact hlt)
      have hl2 := Same.tup s2 h1
      refine ⟨.int p, rfl, .int p, rfl, .ref l, rfl, .int (fpR y : Int), rfl, l, _, _, _, rfl, rfl, hl2, at_row (by rw [okl.1]; exact hlt), p, _, rfl, hF, hp, by omega, bj.2, .ref l, rfl, l, y, p, ctr p (y.getD (fpR y) 0), rfl, hl2, by omega, by omega, ?_, ?_, fun H3 l3 s3 n3 e3 => ?_⟩
      · have := (ctr_ok hF (show 1 ≤ y.getD (fpR y) 0 by omega) bj.2).1
        omega
      · have := (ctr_ok hF (show 1 ≤ y.getD (fpR y) 0 by omega) bj.2).2.1
        omega
      have e3 : H3 l3 = some (.tup ((ownR p y (fpR y)).map V.int)) := e3
      have okf := own_row (p := p) (by omega) okl.1 (fpR y)
      have wid := fun rs => wid rs hlt
      -- its first place
      have ff : fpR (ownR p y (fpR y)) = fpR y := by
        have hc := ctr_ok hF (show 1 ≤ y.getD (fpR y) 0 by omega) bj.2
        have gd : ∀ i, i < n → (ownR p y (fpR y)).getD i 0 = ctr p (y.getD (fpR y) 0) * y.getD i 0 % p := fun i hi => by
          unfold ownR
          rw [gd_lt (by rw [List.length_map, okl.1]; exact hi), List.getElem_map, gd_lt (r := y) (i := i) (by rw [okl.1]; exact hi)]
        refine fpR_of ?_ fun i hi => ?_
        · rw [gd _ hlt, Int.mul_comm, hc.2.2]
          decide
        · rw [gd _ (by omega), fpR_low hi, Int.mul_zero, Int.zero_emod]
      generalize ownR p y (fpR y) = fr at e3 okf wid ff
      refine ⟨.ref l3, rfl, sz1000 (by decide : (1 : Nat) ≤ 1000), fun L nL => ?_⟩
      generalize h4 : upd H3 L _ = H4
      obtain ⟨s4, e4⟩ := new_of h4 nL
      have t14 : Same H H4 := ((s1.trans s2).trans s3).trans s4
      obtain ⟨ws, hB4, hR4⟩ := RowsAt.same t14 hB
      have lw := rows_len hR4
      have hf4 : SqT K H4 l3 (fr.map V.int) := .inl (.inl (s4 _ _ e3))
      refine ⟨.ref b, rfl, b, rfl, ⟨_, hB4⟩, lc_mapR (fun d => rowD (lessR p (intsOf d) fr (fpR fr))) (walk_tup (K := K) (a := b) (xs := ws)) (fun H' s => Same.tup s hB4) (rep_rows hR4) (by omega) (fun _ => rfl) (fun v d H' Q' md rv sm hQ => ?_) (fun D H5 vs5 s5 n5 e5 r5 => ?_)⟩
      · obtain ⟨x, mx, rfl⟩ := List.mem_map.mp md
        obtain ⟨c, rfl, hc⟩ := rep_row rv
        rw [ints_row] at hQ
        refine ⟨.int p, rfl, .ref l3, rfl, .ref c, rfl, c, l3, x, fr, p, n, rfl, hc, Same.tup sm hf4, rowsOk_one (pf.1 x mx), okf.1, by omega, by omega, by omega, by omega, fun H'' l'' s'' h'' => hQ (.ref l'') H'' s'' (row_rep h'')⟩
      have em : (room.map rowD).map (fun d => rowD (lessR p (intsOf d) fr (fpR fr))) = (room.map fun x => lessR p x fr (fpR y)).map rowD := by
        rw [List.map_map, List.map_map]
        apply List.map_congr_left
        intro x _
        show rowD (lessR p (intsOf (rowD x)) fr (fpR fr)) = rowD (lessR p x fr (fpR y))
        rw [ints_row, ff]
      rw [em] at r5
      have d5 := rows_rep r5
      have lv5 : vs5.length = room.length := by
        have := rows_len d5
        rwa [List.length_map] at this
      have e45 := s5 _ _ e4
      refine ⟨L, D, _, _, rfl, rfl, e45, e5, sz1000 (by simp; omega), fun C nC => ?_⟩
      generalize h6 : upd H5 C _ = H6
      obtain ⟨s6, e6⟩ := new_of h6 nC
      have t46 : Same H4 H6 := s5.trans s6
      have hf6 := Same.tup t46 hf4
      have d6 : DpAll K H6 ([V.ref l3] ++ vs5) ((fr :: room.map fun x => lessR p x fr (fpR y)).map rowD) := .cons (row_dp hf6) (dpAll_same s6 _ _ d5)
      have okL : RowsOk p n (fr :: room.map fun x => lessR p x fr (fpR y)) := fun x hx => by
        rcases List.mem_cons.mp hx with rfl | hx
        · exact okf
        · obtain ⟨z, hz, rfl⟩ := List.mem_map.mp hx
          exact less_row (by omega) (pf.1 z hz).1 okf.1 _
      refine ⟨C, _, n, p, rfl, rfl, n1, .inl (.inl e6), fun x hx => ?_, fun ys S pm pw nS => ?_⟩
      · obtain ⟨i, hi, rfl⟩ := List.getElem_of_mem hx
        obtain ⟨c, rc, ec, gr, mr, hc⟩ := dpAll_row d6 (List.getElem?_eq_getElem hi)
        exact ⟨rc, ⟨c, ec, hc⟩, (okL rc mr).1, (okL rc mr).2⟩
      generalize h7 : upd H6 S _ = H7
      obtain ⟨s7, e7⟩ := new_of h7 nS
      obtain ⟨rs', pm', d'⟩ := dpAll_perm pm d6
      have pw' := dpAll_pw d' pw
      have er := wid rs' pm' pw'
      refine ⟨S, ys, rfl, .inl ⟨.inl (.inl e7), fun R nR => ?_⟩⟩
      generalize h8 : upd H7 R _ = H8
      obtain ⟨s8, e8⟩ := new_of h8 nR
      refine q H8 R (((t14.trans t46).trans s7).trans s8) ⟨ys, .inl (.inl e8), ?_⟩
      rw [← er]
      exact dpAll_same (s7.trans s8) _ _ d'
    · -- nothing new
      refine ⟨.non, rfl, rfl, _, rfl, ?_⟩
      rw [decide_eq_true rfl]
      refine iteT ⟨.ref b, rfl, q H2 b (s1.trans s2) ?_⟩
      rw [← wid0 (fpR_all e)]
      exact RowsAt.same (s1.trans s2) hB
def sp_room_of (K : PySem.W.Frag) : Sp := fun vs H Q _ => ∃ (a : Addr) (rs : List (List Int)) (p : Int) (n : Nat), vs = [.int p, .int (n : Int), .ref a] ∧ RowsAt K H a rs ∧ RowsOk p n rs ∧ Fld p ∧ 1 ≤ n ∧ n ≤ 100 ∧ p ≤ 1000 ∧
  ∀ H' l, Same H H' → RowsAt K H' l (plainR p n rs) → Q (.ref l) H'
theorem ok_room_of (T : Top K mg) : Ok P w K mg base 5 "room_of" ["p", "n", "rows"] (sp_room_of K) := by
  have O_widened := ok_widened (P := P) (w := w) (base := base) T
  refine T.d_room_of.ok sc_room_of (fun vs H Q E h => ?_) (fun f cdv A outer s H vs Q E hr h => ?_)
  · obtain ⟨a, rs, p, n, rfl, _⟩ := h
    rfl
  · obtain ⟨a, rs, p, n, rfl, ⟨ws, hA, hR⟩, ok, hF, n1, hn, hp, q⟩ := h
    refine ⟨_, ((pss_cons (ps_set (i := 3) sc_room_of.nd rfl (.inl rfl) (pe_tup pa_nil))
      (pss_cons (ps_for PassesOwn.never (by rfl) (pi_tup (pv 2)) (pg_name (i := 4) sc_room_of.nd rfl (.inl rfl))
        (pss_cons (ps_if (pt_cmpR op_eq (pe_callB call_len_seq (by rfl) T.b_len (by decide +kernel) (pa_cons (pv 3) pa_nil)) (pv 1) (nomark _))
          (pss_one (ps_ret (pv 3)))
          pss_nil)
        (pss_one (ps_set (i := 3) sc_room_of.nd rfl (.inl rfl) (pe_callO O_widened (hr.mono (by omega)) (by rfl) (pa_cons (pv 0) (pa_cons (pv 3) (pa_cons (pv 4) pa_nil))))))))
      (pss_one (ps_ret (pv 3)))))), ?_⟩
    have lw := rows_len hR
    refine ⟨Nat.zero_le _, fun z nz => ?_⟩
    generalize h1 : upd H z _ = H1
    obtain ⟨s1, e1⟩ := new_of h1 nz
    have hA1 := Same.tup s1 hA
    refine ⟨.ref a, rfl, a, rfl, ⟨_, hA1⟩, for_it (walk_tup (K := K) (a := a) (xs := ws)) (fun i σ H' => Same H H' ∧ ∃ (b : Addr) (y4 : Option V), RowsAt K H' b (plainR p n (rs.take i)) ∧ σ = [some (.int p), some (.int (n : Int)), some (.ref a), some (.ref b), y4]) ⟨s1, z, none, ⟨[], .inl (.inl e1), ?_⟩, rfl⟩ (fun i σ H' _ hW => Same.tup hW.1 hA) (fun i x σ H2 H3 hi hW hY => ?_) (fun σ H' hW => ?_)⟩
    · rw [List.take_zero, plainR_nil]
      exact .nil
    · obtain ⟨sm, b, y4, hb, rfl⟩ := hW
      obtain ⟨rfl, e1⟩ := hY
      obtain ⟨c, r, rfl, gr, mr, hc⟩ := dpAll_row (dpAll_same sm _ _ hR) e1
      have okt : RowsOk p n (rs.take i) := fun x hx => ok x (List.mem_of_mem_take hx)
      have okr : RowsOk p n [r] := rowsOk_one (ok r mr)
      have pf := PFR.of_plain hF okt
      have eapp : rs.take (i + 1) = rs.take i ++ [r] := by
        rw [List.take_add_one, gr]
        rfl
      obtain ⟨wb, hb1, hb2⟩ := id hb
      have lb := rows_len hb2
      refine ⟨.ref b, rfl, b, wb, rfl, .inr hb1, .int n, rfl, rfl, _, rfl, ite2 (fun e => ?_) (fun e => ?_)⟩
      · have e : wb.length = n := by
          have := V.int.inj (of_decide_eq_true e)
          omega
        refine ⟨.ref b, rfl, q _ b sm ?_⟩
        have ef : plainR p n rs = plainR p n (rs.take i) := by
          have := plain_full hF okt (show RowsOk p n (rs.drop i) from fun x hx => ok x (List.mem_of_mem_drop hx)) (by omega)
          rwa [List.take_append_drop] at this
        rw [ef]
        exact hb
      · refine ⟨.int p, rfl, .ref b, rfl, .ref c, rfl, c, b, plainR p n (rs.take i), r, p, n, rfl, hb, hc, pf, okr, hF, n1, hn, hp, fun H4 l s4 h4 => ?_⟩
        refine ⟨sm.trans s4, l, _, ?_, rfl⟩
        rw [eapp, ← plainR_app hF okt okr]
        exact h4
    · obtain ⟨sm, b, y4, hb, rfl⟩ := hW
      rw [List.take_of_length_le (by omega)] at hb
      exact ⟨.ref b, rfl, q H' b sm hb⟩
def sp_deck (K : PySem.W.Frag) : Sp := fun vs H Q _ => ∃ (a : Addr) (ns : List Int), vs = [.ref a] ∧ SqL K H a (ns.map V.int) ∧ ns.length ≤ 63 ∧ ∀ H' d c, Same H H' → Deck H' d c 0 → H d = none → H c = none → Q (.ref d) H'
theorem ok__law_deck (T : Top K mg) : Ok P w K mg base 1 "_law_deck" ["_law_script"] (sp_deck K) := by
  refine T.d__law_deck.ok sc__law_deck (fun vs H Q E h => ?_) (fun f cdv A outer s H vs Q E hr h => ?_)
  · obtain ⟨a, ns, rfl, _⟩ := h
    rfl
  · obtain ⟨a, ns, rfl, hS, hl, q⟩ := h
    refine ⟨_, ((pss_one (ps_ret (pe_lst (pa_cons (pe_lc (own := [("_law_cell", 1)]) (g := gName 1) (by rfl) sc__law_deck.nd (pi_list (pe_slice sl_list (pv 0) po_none (po_some pe_int))) (blkOk_by (own := [("_law_cell", 1)]) (N := N__law_deck) (sc := defScope s__law_deck) (by decide +kernel)) (fun _ _ _ _ _ => (pg_name (i := 1) sc__law_deck.nd rfl (.inl rfl))) (fun _ _ _ _ _ => pts_nil) (fun _ _ _ _ _ => (pe_callB call_abs (by rfl) T.b_abs (by decide +kernel) (pa_cons (pv 1) pa_nil)))) (pa_cons pe_int pa_nil)))))), ?_⟩
    refine ⟨.ref a, rfl, 63, rfl, a, ns.map V.int, rfl, hS, fun l nl => ?_⟩
    have ec : cutV (ns.map V.int) none (some 63) = ns.map V.int := by
      unfold cutV
      rw [HT.sIx_none, show HT.sIx (ns.map V.int).length (ns.map V.int).length (some 63) = min 63 (ns.map V.int).length from HT.sIx_nat _ _ 63]
      rw [List.drop_zero]
      exact List.take_of_length_le (by rw [List.length_map]; omega)
    rw [ec]
    have s1 : Same H (upd H l (.lst (ns.map V.int))) := same_upd nl
    refine ⟨l, rfl, ⟨_, .inl (.inl upd_same)⟩, fun D nD => ?_⟩
    have nl' : H D = none := s1.free nD
    have nDl : l ≠ D := ne_of_none upd_same nD
    refine lc_list (xs := ns.map V.int) (fun i H' => Same H H' ∧ H' l = some (.lst (ns.map V.int)) ∧ H' D = some (.lst ((ns.take i).map fun x => V.int (if x < 0 then -x else x)))) ⟨same_mut s1 nl', ?_, ?_⟩ (fun i H' _ hP => .inl (.inl hP.2.1)) (fun i x H' hx hP => ?_) (fun H' hP => ?_)
    · rw [upd_ne nDl, upd_same]
    · rw [upd_same]; rfl
    · obtain ⟨sm, e1, e2⟩ := hP
      rw [List.getElem?_map] at hx
      cases hn : ns[i]? with
      | none => rw [hn] at hx; cases hx
      | some z =>
        rw [hn] at hx
        have ez : x = V.int z := (Option.some.inj hx).symm
        subst ez
        refine ⟨rfl, .int z, rfl, z, rfl, _, e2, ?_, same_mut sm nl', ?_, ?_⟩
        · rw [List.length_map, List.length_take]
          exact Nat.lt_of_le_of_lt (Nat.min_le_right _ _) (small1000 (by omega))
        · rw [upd_ne nDl]; exact e1
        · rw [upd_same, List.take_add_one, hn, List.map_append]
          rfl
    · obtain ⟨sm, e1, e2⟩ := hP
      rw [List.length_map, List.take_length] at e2
      refine ⟨(by show 2 ≤ sizeLine; decide), fun p np => ?_⟩
      have sp : Same H' (upd H' p (.lst [.ref D, .int 0])) := same_upd np
      refine q _ p D (sm.trans sp) ⟨upd_same, ⟨ns.map fun x => if x < 0 then -x else x, ?_, fun x hx => ?_, by rw [List.length_map]; exact hl⟩, fun z => ?_, by decide⟩ (sm.free np) nl'
      · rw [sp _ _ e2, List.map_map]
        rfl
      · obtain ⟨y, _, rfl⟩ := List.mem_map.mp hx
        by_cases hy : y < 0
        · rw [if_pos hy]; omega
        · rw [if_neg hy]; omega
      · subst z
        rw [e2] at np
        cases np
theorem wide_m {m : Int} (h0 : 0 < m) (h1 : m < 100000000000000000000) : m.natAbs.log2 < 9000 := by
  have e : (2 : Nat) ^ 67 = 147573952589676412928 := by decide
  have := PySem.Flt.log2_lt_of (k := 67) (n := m.natAbs) (by decide) (by rw [e]; omega)
  omega
def sp_draw : Sp := fun vs H Q _ => ∃ (d c : Addr) (t m : Int), vs = [.ref d, .int m] ∧ Deck H d c t ∧ t < 1000000 ∧ 0 < m ∧ m < 100000000000000000000 ∧ ∀ H' r, Kept d c H H' → Deck H' d c (t + 1) → 0 ≤ r → r < m → Q (.int r) H'
theorem ok__law_draw (T : Top K mg) : Ok P w K mg base 1 "_law_draw" ["_law_deck_here", "_law_many"] sp_draw := by
  refine T.d__law_draw.ok sc__law_draw (fun vs H Q E h => ?_) (fun f cdv A outer s H vs Q E hr h => ?_)
  · obtain ⟨d, c, t, m, rfl, _⟩ := h
    rfl
  · obtain ⟨d, c, t, m, rfl, ⟨hd, ⟨cells, hc, hp, hl⟩, hne, ht0⟩, ht, hm0, hm1, q⟩ := h
    refine ⟨_, ((pss_cons (ps_asg (pe_op op_add (pe_ix ix_list (pv 0) pe_int (fun _ _ => rfl)) pe_int) (pg_sub (pv 0) pe_int set_list))
      (pss_cons (ps_set (i := 2) sc__law_draw.nd rfl (.inl rfl) pe_int)
      (pss_cons (ps_set (i := 3) sc__law_draw.nd rfl (.inl rfl) (pe_un un_neg pe_int))
      (pss_cons (ps_if (pt_cmpR op_gt (pe_callB call_len_seq (by rfl) T.b_len (by decide +kernel) (pa_cons (pe_ix ix_list (pv 0) pe_int (fun _ _ => rfl)) pa_nil)) pe_int (nomark _))
        (pss_cons (ps_set (i := 3) sc__law_draw.nd rfl (.inl rfl) (pe_op op_mod (pe_ix ix_list (pv 0) pe_int (fun _ _ => rfl)) (pe_callB call_len_seq (by rfl) T.b_len (by decide +kernel) (pa_cons (pe_ix ix_list (pv 0) pe_int (fun _ _ => rfl)) pa_nil))))
        (pss_one (ps_set (i := 2) sc__law_draw.nd rfl (.inl rfl) (pe_ix ix_list (pe_ix ix_list (pv 0) pe_int (fun _ _ => rfl)) (pv 3) (fun _ _ => rfl)))))
        pss_nil)
      (pss_cons (ps_if (pt_cmpR op_ge (pv 2) (pe_op op_pow pe_int pe_int) (nomark _))
        (pss_cons (ps_asg (pe_op op_fdivW (pv 2) (pv 1)) (pg_sub (pe_ix ix_list (pv 0) pe_int (fun _ _ => rfl)) (pv 3) set_list))
        (pss_one (ps_ret (pe_op op_mod (pv 2) (pv 1)))))
        pss_nil)
      (pss_one (ps_ret (pe_op op_mod (pe_op op_fdiv (pe_op op_mod (pe_op op_pow (pe_op op_add (pe_op op_add (pe_op op_mod (pv 2) pe_int) (pe_op op_mul pe_int (pe_ix ix_list (pv 0) pe_int (fun _ _ => rfl)))) pe_int) pe_int) pe_int) pe_int) (pv 1)))))))))), ?_⟩
    refine ⟨.ref d, rfl, d, _, 1, .int t, rfl, rfl, .inl (.inl hd), rfl, t, 1, rfl, rfl, .ref d, rfl, d, _, 1, 1, rfl, rfl, hd, rfl, ?_⟩
    have hd1 : (upd H d (.lst ([V.ref c, .int t].set 1 (.int (t + 1))))) d = some (.lst [.ref c, .int (t + 1)]) := upd_same
    have hc1 : (upd H d (.lst ([V.ref c, .int t].set 1 (.int (t + 1))))) c = some (.lst (cells.map V.int)) := by
      rw [upd_ne hne]; exact hc
    have k1 : Kept d c H (upd H d (.lst ([V.ref c, .int t].set 1 (.int (t + 1))))) := fun b o h n _ => by
      rw [upd_ne n]; exact h
    generalize upd H d (.lst ([V.ref c, .int t].set 1 (.int (t + 1)))) = H1 at hd1 hc1 k1 ⊢
    have D1 : Deck H1 d c (t + 1) := ⟨hd1, ⟨cells, hc1, hp, hl⟩, hne, by omega⟩
    refine ⟨1, rfl, .ref d, rfl, d, _, 0, .ref c, rfl, rfl, .inl (.inl hd1), rfl, c, _, rfl, .inl (.inl (.inl hc1)), _, 0, rfl, rfl, _, rfl, ite2 (fun e => ?_) (fun e => ?_)⟩
    · have e0 : (0 : Int) < ((cells.map V.int).length : Int) := of_decide_eq_true e
      rw [List.length_map] at e0
      have z0 : 0 ≤ (t + 1) % (cells.length : Int) := Int.emod_nonneg _ (by omega)
      have z1 : (t + 1) % (cells.length : Int) < (cells.length : Int) := Int.emod_lt_of_pos _ e0
      obtain ⟨x, hx, hx2, hx3⟩ := at_int z0 z1
      have x0 := hp x hx
      refine ⟨.ref d, rfl, d, _, 1, .int (t + 1), rfl, rfl, .inl (.inl hd1), rfl, .ref d, rfl, d, _, 0, .ref c, rfl, rfl, .inl (.inl hd1), rfl, c, _, rfl, .inl (.inl (.inl hc1)), t + 1, (cells.length : Int), rfl, by rw [List.length_map], e0, ?_⟩
      refine ⟨.ref d, rfl, d, _, 0, .ref c, rfl, rfl, .inl (.inl hd1), rfl, .int ((t + 1) % (cells.length : Int)), rfl, c, _, _, .int x, rfl, rfl, .inl (.inl hc1), hx3, ?_⟩
      refine ⟨.int x, rfl, 10, 18, rfl, rfl, ⟨by decide, by decide, by decide⟩, _, _, rfl, rfl, _, rfl, ite2 (fun e => ?_) (fun e => ?_)⟩
      · refine ⟨.int x, rfl, .int m, rfl, x, m, rfl, rfl, ⟨hm0, wide_m hm0 hm1⟩, .ref d, rfl, d, _, 0, .ref c, rfl, rfl, .inl (.inl hd1), rfl, .int ((t + 1) % (cells.length : Int)), rfl, c, _, _, _, rfl, rfl, hc1, ix_nat z0 (by rw [List.length_map]; exact z1), ?_⟩
        refine ⟨.int x, rfl, .int m, rfl, x, m, rfl, rfl, hm0, q _ _ (k1.trans fun b o h _ n => ?_) ⟨?_, ⟨cells.set ((t + 1) % (cells.length : Int)).toNat (x / m), ?_, fun y hy => ?_, ?_⟩, hne, by omega⟩ (Int.emod_nonneg _ (by omega)) (Int.emod_lt_of_pos _ hm0)⟩
        · rw [upd_ne n]; exact h
        · rw [upd_ne (Ne.symm hne)]; exact hd1
        · rw [upd_same, List.map_set]
        · rcases List.mem_or_eq_of_mem_set hy with h | h
          · exact hp y h
          · rw [h]; exact Int.ediv_nonneg x0 (by omega)
        · rw [List.length_set]; exact hl
      · refine ⟨.int x, rfl, x, 2147483587, rfl, rfl, (show (0 : Int) < 2147483587 by decide), .ref d, rfl, d, _, 1, .int (t + 1), rfl, rfl, .inl (.inl hd1), rfl, 7919, t + 1, rfl, rfl, .inl ⟨by decide, by decide⟩, _, _, rfl, rfl, _, 1, rfl, rfl, _, 5, rfl, rfl, ⟨by decide, by decide, ?_⟩, _, 2147483647, rfl, rfl, (show (0 : Int) < 2147483647 by decide), _, 7, rfl, rfl, ⟨by decide, by decide⟩, .int m, rfl, _, m, rfl, rfl, hm0, q _ _ k1 D1 (Int.emod_nonneg _ (by omega)) (Int.emod_lt_of_pos _ hm0)⟩
        have := Int.emod_lt_of_pos x (show (0 : Int) < 2147483587 by decide)
        have := Int.emod_nonneg x (show (2147483587 : Int) ≠ 0 by decide)
        omega
    · refine ⟨.int 0, rfl, 10, 18, rfl, rfl, ⟨by decide, by decide, by decide⟩, _, _, rfl, rfl, _, rfl, ite2 (fun e => absurd (of_decide_eq_true e) (by decide)) (fun e => ?_)⟩
      refine ⟨.int 0, rfl, 0, 2147483587, rfl, rfl, (show (0 : Int) < 2147483587 by decide), .ref d, rfl, d, _, 1, .int (t + 1), rfl, rfl, .inl (.inl hd1), rfl, 7919, t + 1, rfl, rfl, .inl ⟨by decide, by decide⟩, _, _, rfl, rfl, _, 1, rfl, rfl, _, 5, rfl, rfl, ⟨by decide, by decide, ?_⟩, _, 2147483647, rfl, rfl, (show (0 : Int) < 2147483647 by decide), _, 7, rfl, rfl, ⟨by decide, by decide⟩, .int m, rfl, _, m, rfl, rfl, hm0, q _ _ k1 D1 (Int.emod_nonneg _ (by omega)) (Int.emod_lt_of_pos _ hm0)⟩
      omega
def sp_prime : Sp := fun vs H Q _ => ∃ (d c : Addr) (t : Int), vs = [.ref d] ∧ Deck H d c t ∧ t < 1000000 ∧ ∀ H' p, Kept d c H H' → Deck H' d c (t + 1) → p ∈ PR8 → Q (.int p) H'
theorem ok__law_prime (T : Top K mg) : Ok P w K mg base 2 "_law_prime" ["_law_deck_here"] sp_prime := by
  have O__law_draw := ok__law_draw (P := P) (w := w) (base := base) T
  refine T.d__law_prime.ok sc__law_prime (fun vs H Q E h => ?_) (fun f cdv A outer s H vs Q E hr h => ?_)
  · obtain ⟨d, c, t, rfl, _⟩ := h
    rfl
  · obtain ⟨d, c, t, rfl, D0, ht, q⟩ := h
    refine ⟨_, ((pss_one (ps_ret (pe_ix ix_list (pe_lst (pa_cons pe_int (pa_cons pe_int (pa_cons pe_int (pa_cons pe_int (pa_cons pe_int (pa_cons pe_int (pa_cons pe_int (pa_cons pe_int pa_nil))))))))) (pe_callO O__law_draw (hr.mono (by omega)) (by rfl) (pa_cons (pv 0) (pa_cons pe_int pa_nil))) (fun _ _ => rfl))))), ?_⟩
    refine ⟨sz1000 (by decide : (8 : Nat) ≤ 1000), fun L nL => ?_⟩
    generalize h1 : upd H L _ = H1
    obtain ⟨s1, e1⟩ := new_of h1 nL
    refine ⟨.ref d, rfl, d, c, t, 8, rfl, D0.same s1, ht, by decide, by decide, fun H' r k' D' r0 r1 => ?_⟩
    have bL := D0.fresh nL
    have eL' : H' L = some (.lst (PR8.map V.int)) := k' _ _ e1 (fun z => bL (.inl z)) (fun z => bL (.inr z))
    obtain ⟨x, hx, _, hx3⟩ := at_int (xs := PR8) r0 r1
    exact ⟨L, _, r, .int x, rfl, rfl, .inl (.inl eL'), hx3, q H' x (fun b o h n1 n2 => k' b o (s1 b o h) n1 n2) D' hx⟩
def sp_row : Sp := fun vs H Q _ => ∃ (d c : Addr) (t p n : Int), vs = [.ref d, .int p, .int n] ∧ Deck H d c t ∧ t ≤ 990000 ∧ 2 ≤ p ∧ p ≤ 1000 ∧ 0 ≤ n ∧ n ≤ 100 ∧ ∀ H' a r t', Kept d c H H' → Deck H' d c t' → t' ≤ t + 2 * n → H a = none → H' a = some (.tup (r.map V.int)) → (r.length : Int) = n → RowOk p r → Q (.ref a) H'
theorem ok__law_row (T : Top K mg) : Ok P w K mg base 2 "_law_row" ["_law_deck_here", "_law_p", "_law_n"] sp_row := by
  have O__law_draw := ok__law_draw (P := P) (w := w) (base := base) T
  refine T.d__law_row.ok sc__law_row (fun vs H Q E h => ?_) (fun f cdv A outer s H vs Q E hr h => ?_)
  · obtain ⟨d, c, t, p, n, rfl, _⟩ := h
    rfl
  · obtain ⟨d, c, t, p, n, rfl, D0, ht, hp1, hp2, hn1, hn2, q⟩ := h
    refine ⟨_, ((pss_one (ps_ret (pe_callTy call_tuple_of (by rfl) T.b_tuple (by decide +kernel) (pa_cons (pe_lc (own := [("_law_place", 3)]) (g := gName 3) (by rfl) sc__law_row.nd (pi_range1 (by rfl) T.b_range (pa_cons (pv 2) pa_nil)) (blkOk_by (own := [("_law_place", 3)]) (N := N__law_row) (sc := defScope s__law_row) (by decide +kernel)) (fun _ _ _ _ _ => (pg_name (i := 3) sc__law_row.nd rfl (.inl rfl))) (fun _ _ _ _ _ => pts_nil) (fun _ _ _ _ _ => (pe_ix (show IxR _ (rIxL K) from ix_list) (pe_lst (pa_cons pe_int (pa_cons pe_int (pa_cons (pe_op op_sub (pv 1) pe_int) (pa_cons (pe_callO O__law_draw (hr.mono (by omega)) (by rfl) (pa_cons (pv 0) (pa_cons (pv 1) pa_nil))) pa_nil))))) (pe_callO O__law_draw (hr.mono (by omega)) (by rfl) (pa_cons (pv 0) (pa_cons pe_int pa_nil))) (fun _ _ => rfl)))) pa_nil))))), ?_⟩
    refine ⟨.int n, rfl, n, rfl, by omega, by omega, fun B nB => ?_⟩
    have bB := D0.fresh nB
    refine lc_range (lo := 0) (n := n.toNat) (fun i H' => Kept d c H H' ∧ ∃ (t' : Int) (r : List Int), Deck H' d c t' ∧ t' ≤ t + 2 * i ∧ H' B = some (.lst (r.map V.int)) ∧ r.length = i ∧ RowOk p r) ⟨Kept.of (same_upd nB), t, [], D0.same (same_upd nB), by omega, upd_same, rfl, fun x hx => nomatch hx⟩ (fun i H' hi hW => ?_) (fun H' hW => ?_)
    · obtain ⟨k', t', r, D', ht', eB, ln, ro⟩ := hW
      refine ⟨rfl, .int p, rfl, p, 1, rfl, rfl, .ref d, rfl, .int p, rfl, d, c, t', p, rfl, D', by omega, by omega, by omega, fun H1 z1 k1 D1 z10 z11 => ?_⟩
      refine ⟨sz1000 (by decide : (4 : Nat) ≤ 1000), fun L nL => ?_⟩
      generalize h2 : upd H1 L _ = H2
      obtain ⟨s2, e2⟩ := new_of h2 nL
      have D2 := D1.same s2
      have bL := D1.fresh nL
      refine ⟨.ref d, rfl, d, c, t' + 1, 4, rfl, D2, by omega, by decide, by decide, fun H3 z2 k3 D3 z20 z21 => ?_⟩
      have eL : H3 L = some (.lst ([0, 1, p - 1, z1].map V.int)) := k3 _ _ e2 (fun z => bL (.inl z)) (fun z => bL (.inr z))
      obtain ⟨x, hx, _, hx3⟩ := at_int (xs := [0, 1, p - 1, z1]) z20 z21
      have eB3 : H3 B = some (.lst (r.map V.int)) := k3 _ _ (s2 _ _ (k1 _ _ eB (fun z => bB (.inl z)) (fun z => bB (.inr z)))) (fun z => bB (.inl z)) (fun z => bB (.inr z))
      have kk : Kept d c H H3 := fun b o h n1 n2 => k3 b o (s2 b o (k1 b o (k' b o h n1 n2) n1 n2)) n1 n2
      refine ⟨L, _, z2, .int x, rfl, rfl, .inl (.inl eL), hx3, r.map V.int, eB3, by rw [List.length_map]; exact small1000 (by omega), fun b o h n1 n2 => ?_, t' + 1 + 1, r ++ [x], ?_, by omega, ?_, by rw [List.length_append, ln]; rfl, fun y hy => ?_⟩
      · rw [upd_ne (ne_of_none h nB)]
        exact kk b o h n1 n2
      · obtain ⟨hd, ⟨cells, h1, h2⟩, n, t0⟩ := D3
        exact ⟨by rw [upd_ne (fun z => bB (.inl z.symm))]; exact hd, ⟨cells, by rw [upd_ne (fun z => bB (.inr z.symm))]; exact h1, h2⟩, n, t0⟩
      · rw [upd_same, List.map_append]
        rfl
      · rcases List.mem_append.mp hy with h | h
        · exact ro y h
        · have : y = x := by simpa using h
          subst this
          simp only [List.mem_cons, List.not_mem_nil, or_false] at hx
          omega
    · obtain ⟨k', t', r, D', ht', eB, ln, ro⟩ := hW
      refine ⟨B, _, rfl, .inl ⟨.inl (.inl eB), fun l nl => ?_⟩⟩
      generalize h2 : upd H' l _ = H2
      obtain ⟨s2, e2⟩ := new_of h2 nl
      refine q H2 l r t' (fun b o h n1 n2 => s2 b o (k' b o h n1 n2)) (D'.same s2) (by omega) ?_ e2 (by omega) ro
      cases hl : H l with
      | none => rfl
      | some o =>
        have bl := D'.fresh nl
        rw [k' l o hl (fun z => bl (.inl z)) (fun z => bl (.inr z))] at nl
        cases nl
def sp_plus (K : PySem.W.Frag) : Sp := fun vs H Q _ => ∃ (a b : Addr) (x y : List Int) (p m : Int), vs = [.int p, .ref a, .ref b, .int m] ∧ SqT K H a (x.map V.int) ∧ SqT K H b (y.map V.int) ∧ x.length ≤ 1000 ∧ 0 < p ∧ -1000000 ≤ m ∧ m ≤ 1000000 ∧
  ∀ H' l, Same H H' → H l = none → H' l = some (.tup ((plusR p x y m).map V.int)) → Q (.ref l) H'
theorem ok__law_plus (T : Top K mg) : Ok P w K mg base 1 "_law_plus" ["_law_p", "_law_one", "_law_other", "_law_many"] (sp_plus K) := by
  refine T.d__law_plus.ok sc__law_plus (fun vs H Q E h => ?_) (fun f cdv A outer s H vs Q E hr h => ?_)
  · obtain ⟨a, b, x, y, p, m, rfl, _⟩ := h
    rfl
  · obtain ⟨a, b, x, y, p, m, rfl, hA, hB, hz, hp, hm1, hm2, q⟩ := h
    refine ⟨_, ((pss_one (ps_ret (pe_callTy call_tuple_of (by rfl) T.b_tuple (by decide +kernel) (pa_cons (pe_lc (own := [("_law_left", 4), ("_law_right", 5)]) (g := gTup K 2 (gCons (gName 4) (gCons (gName 5) gNil))) (by rfl) sc__law_plus.nd (RZ.pi_zipA (by rfl) T.b_zip (pa_cons (pv 1) (pa_cons (pv 2) pa_nil))) (blkOk_by (own := [("_law_left", 4), ("_law_right", 5)]) (N := N__law_plus) (sc := defScope s__law_plus) (by decide +kernel)) (fun _ _ _ _ _ => (pg_tup (by rfl) (pgs_cons (pg_name (i := 4) sc__law_plus.nd rfl (.inl rfl)) (pgs_cons (pg_name (i := 5) sc__law_plus.nd rfl (.inl rfl)) pgs_nil)))) (fun _ _ _ _ _ => pts_nil) (fun _ _ _ _ _ => (pe_op op_mod (pe_op op_add (pv 4) (pe_op op_mul (pv 3) (pv 5))) (pv 0)))) pa_nil))))), ?_⟩
    refine ⟨.ref a, rfl, .ref b, rfl, a, b, _, _, rfl, .inr ⟨hA, hB, lc_zipI (fun u v => (u + m * v) % p) hA hB hz (fun _ _ => rfl) (fun u v H' Q' _ _ _ hQ => ?_) (fun D H' sm nD eD => ?_)⟩⟩
    · exact ⟨.int u, rfl, .int m, rfl, .int v, rfl, m, v, rfl, rfl, .inl ⟨by omega, by omega⟩, _, _, rfl, rfl, .int p, rfl, _, p, rfl, rfl, hp, hQ⟩
    · refine ⟨D, _, rfl, .inl ⟨.inl (.inl eD), fun l nl => ?_⟩⟩
      exact q _ l (sm.trans (same_upd nl)) (sm.free nl) upd_same
def sp_mixed (K : PySem.W.Frag) : Sp := fun vs H Q _ => ∃ (d c o : Addr) (t p n : Int) (ws : List V) (rs : List (List Int)), vs = [.ref d, .int p, .int n, .ref o] ∧ Deck H d c t ∧ t ≤ 990000 ∧ 2 ≤ p ∧ p ≤ 1000 ∧ 1 ≤ n ∧ n ≤ 100 ∧ ((H o = some (.lst ws) ∧ ¬ Bad d c o) ∨ SqT K H o ws) ∧ DpAll K H ws (rs.map rowD) ∧ rs.length ≤ 100 ∧ (∀ r ∈ rs, (r.length : Int) = n) ∧
  ∀ H' a r t', Kept d c H H' → Deck H' d c t' → t' ≤ t + rs.length → SqT K H' a (r.map V.int) → (r.length : Int) = n → RowOk p r → Q (.ref a) H'
theorem ok__law_mixed (T : Top K mg) : Ok P w K mg base 2 "_law_mixed" ["_law_deck_here", "_law_p", "_law_n", "_law_rows_here"] (sp_mixed K) := by
  have O__law_draw := ok__law_draw (P := P) (w := w) (base := base) T
  have O__law_plus := ok__law_plus (P := P) (w := w) (base := base) T
  refine T.d__law_mixed.ok sc__law_mixed (fun vs H Q E h => ?_) (fun f cdv A outer s H vs Q E hr h => ?_)
  · obtain ⟨d, c, o, t, p, n, ws, rs, rfl, _⟩ := h
    rfl
  · obtain ⟨d, c, o, t, p, n, ws, rs, rfl, D0, ht, hp1, hp2, hn1, hn2, hq, hR, hl, hln, q⟩ := h
    refine ⟨_, ((pss_cons (ps_set (i := 4) sc__law_mixed.nd rfl (.inl rfl) (pe_op op_repB (pe_tup (pa_cons pe_int pa_nil)) (pv 2)))
      (pss_cons (ps_for PassesOwn.never (by rfl) (pi_seqv 3 (pv 3)) (pg_name (i := 5) sc__law_mixed.nd rfl (.inl rfl))
        (pss_one (ps_set (i := 4) sc__law_mixed.nd rfl (.inl rfl) (pe_callO O__law_plus (hr.mono (by omega)) (by rfl) (pa_cons (pv 1) (pa_cons (pv 4) (pa_cons (pv 5) (pa_cons (pe_callO O__law_draw (hr.mono (by omega)) (by rfl) (pa_cons (pv 0) (pa_cons (pv 1) pa_nil))) pa_nil))))))))
      (pss_one (ps_ret (pv 4)))))), ?_⟩
    refine ⟨sz1000 (by decide : (1 : Nat) ≤ 1000), fun z nz => ?_⟩
    generalize h1 : upd H z _ = H1
    obtain ⟨s1, e1⟩ := new_of h1 nz
    have e1 : H1 z = some (.tup ([0].map V.int)) := e1
    have lw : ws.length = rs.length := by
      have := dpAll_len hR
      rw [List.length_map] at this
      exact this
    refine ⟨.int n, rfl, z, n, _, rfl, rfl, .inl (.inl e1), List.cons_ne_nil _ _, hn1, by omega, by decide, fun y H2 s2 hy => ?_⟩
    have hy : SqT K H2 y ((List.replicate n.toNat (0 : Int)).map V.int) := (rep_int n.toNat 0) ▸ hy
    have D2 := D0.same (s1.trans s2)
    have hR2 := dpAll_same (s1.trans s2) _ _ hR
    have hq2 : (∀ H', Kept d c H2 H' → SqL K H' o ws) ∨ (∀ H', Kept d c H2 H' → SqT K H' o ws) := by
      rcases hq with ⟨eo, bo⟩ | hT
      · exact .inl fun H' k => .inl (.inl (k _ _ (s2 _ _ (s1 _ _ eo)) (fun z => bo (.inl z)) (fun z => bo (.inr z))))
      · exact .inr fun H' k => Kept.tup D2 k (Same.tup (s1.trans s2) hT)
    refine ⟨o, ws, fun H' => Kept d c H2 H', rfl, Kept.refl _ _ _, hq2, fun J wk => for_it wk (fun i σ H' => Kept d c H2 H' ∧ ∃ (t' : Int) (y : Addr) (r : List Int) (y5 : Option V), Deck H' d c t' ∧ t' ≤ t + i ∧ SqT K H' y (r.map V.int) ∧ (r.length : Int) = n ∧ RowOk p r ∧ σ = [some (.ref d), some (.int p), some (.int n), some (.ref o), some (.ref y), y5]) ⟨Kept.refl _ _ _, t, y, _, none, D2, by omega, hy, by rw [List.length_replicate]; omega, fun x hx => ?_, rfl⟩ (fun i σ H' _ hW => hW.1) (fun i x σ H' H'' hi hW hY => ?_) (fun σ H' hW => ?_)⟩
    · have := List.eq_of_mem_replicate hx
      omega
    · obtain ⟨rfl, hx⟩ := hY
      obtain ⟨k', t', y1, r, y5, D', ht', hy1, hr1, ro, rfl⟩ := hW
      obtain ⟨b, r2, rfl, g2, m2, hb⟩ := dpAll_row hR2 hx
      have hb' := Kept.tup D2 k' hb
      refine ⟨.int p, rfl, .ref y1, rfl, .ref b, rfl, .ref d, rfl, .int p, rfl, d, c, t', p, rfl, D', by omega, by omega, by omega, fun H3 m k3 D3 m0 m1 => ?_⟩
      refine ⟨y1, b, r, r2, p, m, rfl, Kept.tup D' k3 hy1, Kept.tup D' k3 hb', by omega, by omega, by omega, by omega, fun H4 l s4 nl e4 => ?_⟩
      have e : r.length = r2.length := by
        have := hln r2 m2
        omega
      exact ⟨fun b o h n1 n2 => s4 b o (k3 b o (k' b o h n1 n2) n1 n2), t' + 1, l, plusR p r r2 m, _, D3.same s4, by omega, .inl (.inl e4), by rw [plus_len e]; exact hr1, plus_ok (by omega), rfl⟩
    · obtain ⟨k', t', y1, r, y5, D', ht', hy1, hr1, ro, rfl⟩ := hW
      exact ⟨.ref y1, rfl, q H' y1 r t' (fun b o h n1 n2 => k' b o (s2 b o (s1 b o h)) n1 n2) D' (by omega) hy1 hr1 ro⟩
def sp_rows (K : PySem.W.Frag) : Sp := fun vs H Q _ => ∃ (d c : Addr) (t p n u : Int), vs = [.ref d, .int p, .int n, .int u] ∧ Deck H d c t ∧ t ≤ 900000 ∧ 2 ≤ p ∧ p ≤ 1000 ∧ 1 ≤ n ∧ n ≤ 10 ∧ 0 ≤ u ∧ u ≤ 20 ∧
  ∀ (H' : Hp) (a : Addr) (ws : List V) (rs : List (List Int)) (t' : Int), Kept d c H H' → Deck H' d c t' → t' ≤ t + 1000 → H' a = some (.tup ws) → DpAll K H' ws (rs.map rowD) → (rs.length : Int) ≤ u → (∀ r ∈ rs, (r.length : Int) = n ∧ RowOk p r) → Q (.ref a) H'
theorem ok__law_rows (T : Top K mg) : Ok P w K mg base 3 "_law_rows" ["_law_deck_here", "_law_p", "_law_n", "_law_upto"] (sp_rows K) := by
  have O__law_draw := ok__law_draw (P := P) (w := w) (base := base) T
  have O__law_row := ok__law_row (P := P) (w := w) (base := base) T
  have O__law_mixed := ok__law_mixed (P := P) (w := w) (base := base) T
  refine T.d__law_rows.ok sc__law_rows (fun vs H Q E h => ?_) (fun f cdv A outer s H vs Q E hr h => ?_)
  · obtain ⟨d, c, t, p, n, u, rfl, _⟩ := h
    rfl
  · obtain ⟨d, c, t, p, n, u, rfl, D0, ht, hp1, hp2, hn1, hn2, hu1, hu2, q⟩ := h
    refine ⟨_, ((pss_cons (ps_set (i := 4) sc__law_rows.nd rfl (.inl rfl) (pe_lst pa_nil))
      (pss_cons (ps_for PassesOwn.never (by rfl) (pi_range1 (by rfl) T.b_range (pa_cons (pe_callO O__law_draw (hr.mono (by omega)) (by rfl) (pa_cons (pv 0) (pa_cons (pe_op op_add (pv 3) pe_int) pa_nil))) pa_nil)) (pg_name (i := 5) sc__law_rows.nd rfl (.inl rfl))
        (pss_cons (ps_set (i := 6) sc__law_rows.nd rfl (.inl rfl) (pe_callO O__law_draw (hr.mono (by omega)) (by rfl) (pa_cons (pv 0) (pa_cons pe_int pa_nil))))
        (pss_one (ps_if (PW.pt (pw_and (pt_cmpR op_eq (pv 6) pe_int (nomark _)) (pw_and1 (pt_cmpR (op_neD hr.units) (pv 4) (pe_lst pa_nil) (nomark _)))))
          (pss_one (ps_expr (pe_bm PySem.F.plainAttrs_list PySem.F.slot_list_append PySem.F.type_list_append mt_append (pv 4) (pa_cons (pe_ix ix_list (pv 4) (pe_callO O__law_draw (hr.mono (by omega)) (by rfl) (pa_cons (pv 0) (pa_cons (pe_callB call_len_seq (by rfl) T.b_len (by decide +kernel) (pa_cons (pv 4) pa_nil)) pa_nil))) (fun _ _ => rfl)) pa_nil))))
          (pss_one (ps_if (pt_cmpR op_eq (pv 6) pe_int (nomark _))
            (pss_one (ps_expr (pe_bm PySem.F.plainAttrs_list PySem.F.slot_list_append PySem.F.type_list_append mt_append (pv 4) (pa_cons (pe_callO O__law_mixed (hr.mono (by omega)) (by rfl) (pa_cons (pv 0) (pa_cons (pv 1) (pa_cons (pv 2) (pa_cons (pv 4) pa_nil))))) pa_nil))))
            (pss_one (ps_expr (pe_bm PySem.F.plainAttrs_list PySem.F.slot_list_append PySem.F.type_list_append mt_append (pv 4) (pa_cons (pe_callO O__law_row (hr.mono (by omega)) (by rfl) (pa_cons (pv 0) (pa_cons (pv 1) (pa_cons (pv 2) pa_nil)))) pa_nil))))))))))
      (pss_one (ps_ret (pe_callTy call_tuple_of (by rfl) T.b_tuple (by decide +kernel) (pa_cons (pv 4) pa_nil))))))), ?_⟩
    refine ⟨Nat.zero_le _, fun o no => ?_⟩
    generalize h1 : upd H o _ = H1
    obtain ⟨s1, e1⟩ := new_of h1 no
    have bo := D0.fresh no
    have D1 := D0.same s1
    refine ⟨.ref d, rfl, .int u, rfl, u, 1, rfl, rfl, d, c, t, u + 1, rfl, D1, by omega, by omega, by omega, fun H2 z k2 D2 z0 z1 => ?_⟩
    have e2 := k2 _ _ e1 (fun z => bo (.inl z)) (fun z => bo (.inr z))
    refine ⟨z, rfl, by omega, by omega, for_range (lo := 0) (n := z.toNat) (fun i σ H' => Kept d c H H' ∧ ∃ (t' : Int) (ws : List V) (rs : List (List Int)) (y5 y6 : Option V), Deck H' d c t' ∧ t' ≤ t + 1 + 21 * i ∧ H' o = some (.lst ws) ∧ DpAll K H' ws (rs.map rowD) ∧ rs.length = i ∧ (∀ r ∈ rs, (r.length : Int) = n ∧ RowOk p r) ∧ σ = [some (.ref d), some (.int p), some (.int n), some (.int u), some (.ref o), y5, y6]) ⟨fun b o h n1 n2 => k2 b o (s1 b o h) n1 n2, t + 1, [], [], none, none, D2, by omega, e2, .nil, rfl, fun r hr => (nomatch hr), rfl⟩ (fun i σ H' hi hW => ?_) (fun σ H' hW => ?_)⟩
    · obtain ⟨k', t', ws, rs, y5, y6, D', ht', eo, hR, ln, hro, rfl⟩ := hW
      have lw : ws.length = rs.length := by
        have := dpAll_len hR
        rw [List.length_map] at this
        exact this
      -- one row more
      have next : ∀ (H4 : Hp) (t4 : Int) (v : V) (r : List Int) (y5 y6 : Option V), Kept d c H' H4 → Deck H4 d c t4 → t4 ≤ t' + 21 → Dp K H4 v (rowD r) → (r.length : Int) = n → RowOk p r →
          (H4 o = some (.lst ws) ∧ ws.length < sizeLine ∧ (fun (σ : L2.St) (H' : Hp) => Kept d c H H' ∧ ∃ (t' : Int) (ws : List V) (rs : List (List Int)) (y5 y6 : Option V), Deck H' d c t' ∧ t' ≤ t + 1 + 21 * ((i + 1 : Nat) : Int) ∧ H' o = some (.lst ws) ∧ DpAll K H' ws (rs.map rowD) ∧ rs.length = i + 1 ∧ (∀ r ∈ rs, (r.length : Int) = n ∧ RowOk p r) ∧ σ = [some (.ref d), some (.int p), some (.int n), some (.int u), some (.ref o), y5, y6]) [some (.ref d), some (.int p), some (.int n), some (.int u), some (.ref o), y5, y6] (upd H4 o (.lst (ws ++ [v])))) := by
        intro H4 t4 v r y5 y6 k4 D4 h4 hv hr1 hr2
        have eo4 := k4 _ _ eo (fun z => bo (.inl z)) (fun z => bo (.inr z))
        have tk : Tk H' (upd H4 o (.lst (ws ++ [v]))) := (Tk.kept D' k4).mut eo4
        have tk2 : Tk H4 (upd H4 o (.lst (ws ++ [v]))) := (Tk.refl H4).mut eo4
        refine ⟨eo4, by rw [lw]; exact small1000 (by omega), fun b x h n1 n2 => ?_, t4, ws ++ [v], rs ++ [r], y5, y6, ?_, by omega, upd_same, ?_, by rw [List.length_append, ln]; rfl, fun r' h' => ?_, rfl⟩
        · rw [upd_ne (ne_of_none h no)]
          exact k4 b x (k' b x h n1 n2) n1 n2
        · obtain ⟨hd, ⟨cells, h1, h2⟩, n, t0⟩ := D4
          exact ⟨by rw [upd_ne (fun z => bo (.inl z.symm))]; exact hd, ⟨cells, by rw [upd_ne (fun z => bo (.inr z.symm))]; exact h1, h2⟩, n, t0⟩
        · rw [List.map_append]
          exact dpAll_append (dpAll_tk tk _ _ (noL_rows rs) hR) (.cons (dp_tk tk2 _ _ (noL_row r) hv) .nil)
        · rcases List.mem_append.mp h' with h | h
          · exact hro r' h
          · have : r' = r := by simpa using h
            subst this
            exact ⟨hr1, hr2⟩
      refine ⟨.ref d, rfl, d, c, t', 6, rfl, D', by omega, by decide, by decide, fun H3 w3 k3 D3 w0 w1 => ?_⟩
      have eo3 := k3 _ _ eo (fun z => bo (.inl z)) (fun z => bo (.inr z))
      have hR3 := dpAll_tk (Tk.kept D' k3) _ _ (noL_rows rs) hR
      -- what the other two ways do
      have mix : ∀ (X : Prop), X → X := fun _ h => h
      refine ⟨.int w3, rfl, rfl, _, rfl, ite2 (fun e => ?_) (fun e => ?_)⟩
      · refine ⟨.ref o, rfl, Nat.zero_le _, fun l nl => ?_⟩
        generalize h4 : upd H3 l _ = H4
        obtain ⟨s4, e4⟩ := new_of h4 nl
        have D4 := D3.same s4
        have k4 : Kept d c H' H4 := fun b x h n1 n2 => s4 b x (k3 b x h n1 n2)
        have eo4 := s4 _ _ eo3
        have hR4 := dpAll_same s4 _ _ hR3
        refine ⟨.list (rs.map rowD), .list [], .lst (.inl (.inl eo4)) hR4, .lst (.inl (.inl e4)) .nil, shaped_lrows rs, shaped_lrows [], _, rfl, ?_⟩
        rw [eqv_nil]
        by_cases hne : rs.map rowD = []
        · rw [decide_eq_true hne]
          have ew : w3 = 0 := V.int.inj (of_decide_eq_true e)
          subst ew
          refine iteF ⟨.int 0, rfl, rfl, _, rfl, iteF ?_⟩
          refine ⟨.ref o, rfl, .inl ⟨rfl, _, .inl (.inl eo4)⟩, .ref d, rfl, .int p, rfl, .int n, rfl, d, c, t' + 1, p, n, rfl, D4, by omega, hp1, hp2, by omega, by omega, fun H5 a r t5 k5 D5 h5 na ea hr1 hr2 => ?_⟩
          obtain ⟨g1, g2, g3⟩ := next H5 t5 (.ref a) r _ _ (k4.trans k5) D5 (by omega) (row_dp (.inl (.inl ea))) hr1 hr2
          exact ⟨o, _, _, rfl, rfl, g1, g2, g3⟩
        · rw [decide_eq_false hne]
          have pos : 0 < ws.length := by
            rw [lw]
            cases rs with
            | nil => exact absurd rfl hne
            | cons a b => exact Nat.succ_pos _
          refine iteT ⟨.ref o, rfl, .inl ⟨rfl, _, .inl (.inl eo4)⟩, .ref o, rfl, .ref d, rfl, .ref o, rfl, o, ws, rfl, .inl (.inl (.inl eo4)), d, c, t' + 1, _, rfl, D4, by omega, by omega, by omega, fun H5 j k5 D5 j0 j1 => ?_⟩
          have eo5 := k5 _ _ eo4 (fun z => bo (.inl z)) (fun z => bo (.inr z))
          have hj : j.toNat < ws.length := by omega
          have gv : ws[j.toNat]? = some ws[j.toNat] := List.getElem?_eq_getElem hj
          obtain ⟨b, r, eb, gr, mr, hb⟩ := dpAll_row hR4 gv
          have hb5 := Kept.tup D4 k5 hb
          have hdp : Dp K H5 ws[j.toNat] (rowD r) := by
            rw [eb]
            exact row_dp hb5
          obtain ⟨g1, g2, g3⟩ := next H5 (t' + 1 + 1) ws[j.toNat] r _ _ (k4.trans k5) D5 (by omega) hdp (hro r mr).1 (hro r mr).2
          exact ⟨o, _, j, _, rfl, rfl, .inl (.inl eo5), at_of (j := j.toNat) (by omega) gv, o, _, _, rfl, rfl, g1, g2, g3⟩
      · refine ⟨.int w3, rfl, rfl, _, rfl, ite2 (fun e2 => ?_) (fun e2 => ?_)⟩
        · refine ⟨.ref o, rfl, .inl ⟨rfl, _, .inl (.inl eo3)⟩, .ref d, rfl, .int p, rfl, .int n, rfl, .ref o, rfl, d, c, o, t' + 1, p, n, ws, rs, rfl, D3, by omega, hp1, hp2, hn1, by omega, .inl ⟨eo3, bo⟩, hR3, by omega, fun r h => (hro r h).1, fun H5 a r t5 k5 D5 h5 ea hr1 hr2 => ?_⟩
          obtain ⟨g1, g2, g3⟩ := next H5 t5 (.ref a) r _ _ (k3.trans k5) D5 (by omega) (row_dp ea) hr1 hr2
          exact ⟨o, _, _, rfl, rfl, g1, g2, g3⟩
        · refine ⟨.ref o, rfl, .inl ⟨rfl, _, .inl (.inl eo3)⟩, .ref d, rfl, .int p, rfl, .int n, rfl, d, c, t' + 1, p, n, rfl, D3, by omega, hp1, hp2, by omega, by omega, fun H5 a r t5 k5 D5 h5 na ea hr1 hr2 => ?_⟩
          obtain ⟨g1, g2, g3⟩ := next H5 t5 (.ref a) r _ _ (k3.trans k5) D5 (by omega) (row_dp (.inl (.inl ea))) hr1 hr2
          exact ⟨o, _, _, rfl, rfl, g1, g2, g3⟩
    · obtain ⟨k', t', ws, rs, y5, y6, D', ht', eo, hR, ln, hro, rfl⟩ := hW
      refine ⟨.ref o, rfl, o, _, rfl, .inl ⟨.inl (.inl eo), fun l nl => ?_⟩⟩
      generalize h2 : upd H' l _ = H2
      obtain ⟨s2, e2⟩ := new_of h2 nl
      exact q H2 l ws rs t' (fun b o h n1 n2 => s2 b o (k' b o h n1 n2)) (D'.same s2) (by omega) e2 (dpAll_same s2 _ _ hR) (by omega) hro
def sp_ctr : Sp := fun vs H Q _ => ∃ p a : Int, vs = [.int p, .int a] ∧ Fld p ∧ p ≤ 1000 ∧ 1 ≤ a ∧ a < p ∧ ∀ H', Same H H' → Q (.int (ctr p a)) H'
theorem ok__law_contrary (T : Top K mg) : Ok P w K mg base 1 "_law_contrary" ["_law_p", "_law_a"] sp_ctr := by
  refine T.d__law_contrary.ok sc__law_contrary (fun vs H Q E h => ?_) (fun f cdv A outer s H vs Q E hr h => ?_)
  · obtain ⟨p, a, rfl, _⟩ := h
    rfl
  · obtain ⟨p, a, rfl, hF, hp, h0, h1, q⟩ := h
    refine ⟨_, ((pss_one (ps_ret (pe_ix ix_list (pe_lc (own := [("_law_b", 2)]) (g := gName 2) (by rfl) sc__law_contrary.nd (pi_range1 (by rfl) T.b_range (pa_cons (pv 0) pa_nil)) (blkOk_by (own := [("_law_b", 2)]) (N := N__law_contrary) (sc := defScope s__law_contrary) (by decide +kernel)) (fun _ _ _ _ _ => (pg_name (i := 2) sc__law_contrary.nd rfl (.inl rfl))) (fun _ _ _ _ _ => (pts_one (pt_cmpR op_eq (pe_op op_mod (pe_op op_mul (pv 1) (pv 2)) (pv 0)) pe_int (nomark _)))) (fun _ _ _ _ _ => (pv 2))) pe_int (fun _ _ => rfl))))), ?_⟩
    have hp2 := hF.1
    refine ⟨.int p, rfl, p, rfl, by omega, by omega, fun D nD => ?_⟩
    refine lc_range (lo := 0) (n := p.toNat) (fun k H' => Same H H' ∧ H' D = some (.lst ((((List.range k).map fun (b : Nat) => (b : Int)).filter fun b => decide (a * b % p = 1)).map V.int))) ⟨same_upd nD, upd_same⟩ (fun k H' hk hP => ?_) (fun H' hP => ?_)
    · obtain ⟨sm, eD⟩ := hP
      have tk : ((List.range (k + 1)).map fun (b : Nat) => (b : Int)).filter (fun b => decide (a * b % p = 1)) = ((List.range k).map fun (b : Nat) => (b : Int)).filter (fun b => decide (a * b % p = 1)) ++ (if a * (k : Int) % p = 1 then [(k : Int)] else []) := by
        rw [List.range_succ, List.map_append, List.filter_append]
        congr 1
        by_cases hq : a * (k : Int) % p = 1
        · simp [hq]
        · simp [hq]
      refine ⟨rfl, .int a, rfl, .int (0 + k), rfl, a, 0 + k, rfl, rfl, .inl ⟨by omega, by omega⟩, .int p, rfl, _, p, rfl, rfl, by omega, rfl, _, rfl, ?_⟩
      rw [show (0 : Int) + (k : Int) = (k : Int) by omega]
      by_cases hq : a * (k : Int) % p = 1
      · rw [decide_eq_true (congrArg V.int hq)]
        refine iteT ⟨.int k, rfl, _, eD, ?_, same_mut sm nD, ?_⟩
        · rw [List.length_map]
          refine Nat.lt_of_le_of_lt (List.length_filter_le _ _) ?_
          rw [List.length_map, List.length_range]
          exact small1000 (by omega)
        · rw [upd_same, tk, if_pos hq, List.map_append]
          rfl
      · rw [decide_eq_false (fun z => hq (V.int.inj z))]
        refine iteF ⟨sm, ?_⟩
        rw [eD, tk, if_neg hq, List.append_nil]
    · obtain ⟨sm, eD⟩ := hP
      have hc := ctr_ok hF h0 h1
      have e0 : atI ((((List.range p.toNat).map fun (b : Nat) => (b : Int)).filter fun b => decide (a * b % p = 1)).map V.int) 0 = some (.int (ctr p a)) := by
        unfold ctr at hc ⊢
        cases hl : ((List.range p.toNat).map fun (b : Nat) => (b : Int)).filter (fun b => decide (a * b % p = 1)) with
        | nil =>
          obtain ⟨b, b1, b2, b3⟩ := hF.2 a h0 h1
          have : b ∈ ((List.range p.toNat).map fun (b : Nat) => (b : Int)).filter (fun b => decide (a * b % p = 1)) := List.mem_filter.mpr ⟨List.mem_map.mpr ⟨b.toNat, List.mem_range.mpr (by omega), by omega⟩, decide_eq_true b3⟩
          rw [hl] at this
          cases this
        | cons x r => exact at_of (j := 0) rfl rfl
      exact ⟨D, _, 0, _, rfl, rfl, .inl (.inl eD), e0, q H' sm⟩
def sp_less (K : PySem.W.Frag) : Sp := fun vs H Q _ => ∃ (a b : Addr) (x y : List Int) (p : Int) (j : Nat), vs = [.int p, .ref a, .ref b, .int (j : Int)] ∧ SqL K H a (x.map V.int) ∧ SqL K H b (y.map V.int) ∧ x.length ≤ 1000 ∧ j < x.length ∧ 0 < p ∧ p ≤ 1000000 ∧ RowOk p x ∧
  ∀ H' l, Same H H' → H l = none → H' l = some (.lst ((lessR p x y j).map V.int)) → Q (.ref l) H'
theorem ok__law_less (T : Top K mg) : Ok P w K mg base 1 "_law_less" ["_law_p", "_law_row_here", "_law_own", "_law_place"] (sp_less K) := by
  refine T.d__law_less.ok sc__law_less (fun vs H Q E h => ?_) (fun f cdv A outer s H vs Q E hr h => ?_)
  · obtain ⟨a, b, x, y, p, j, rfl, _⟩ := h
    rfl
  · obtain ⟨a, b, x, y, p, j, rfl, hA, hB, hz, hj, hp, hp2, ro, q⟩ := h
    refine ⟨_, ((pss_one (ps_ret (pe_lc (own := [("_law_rest", 4), ("_law_mine", 5)]) (g := gTup K 2 (gCons (gName 4) (gCons (gName 5) gNil))) (by rfl) sc__law_less.nd (RZ.pi_zipA (by rfl) T.b_zip (pa_cons (pv 1) (pa_cons (pv 2) pa_nil))) (blkOk_by (own := [("_law_rest", 4), ("_law_mine", 5)]) (N := N__law_less) (sc := defScope s__law_less) (by decide +kernel)) (fun _ _ _ _ _ => (pg_tup (by rfl) (pgs_cons (pg_name (i := 4) sc__law_less.nd rfl (.inl rfl)) (pgs_cons (pg_name (i := 5) sc__law_less.nd rfl (.inl rfl)) pgs_nil)))) (fun _ _ _ _ _ => pts_nil) (fun _ _ _ _ _ => (pe_op op_mod (pe_op op_sub (pv 4) (pe_op op_mul (pe_ix (show IxR _ (rIxL K) from ix_list) (pv 1) (pv 3) (fun _ _ => rfl)) (pv 5))) (pv 0))))))), ?_⟩
    have gj : atI (x.map V.int) (j : Int) = some (.int (x.getD j 0)) := at_of (j := j) rfl (by rw [List.getElem?_map, List.getElem?_eq_getElem hj, gd_lt hj]; rfl)
    have bj := ro (x.getD j 0) (by rw [gd_lt hj]; exact List.getElem_mem hj)
    refine ⟨.ref a, rfl, .ref b, rfl, a, b, _, _, rfl, .inl ⟨hA, hB, lc_zipLI (fun r m => (r - x.getD j 0 * m) % p) hA hB hz (fun _ _ => rfl) (fun u v H' Q' _ _ sm hQ => ?_) (fun D H' sm nD eD => q H' D sm nD eD)⟩⟩
    exact ⟨.int u, rfl, .ref a, rfl, .int j, rfl, a, _, _, _, rfl, rfl, sm.seq hA, gj, .int v, rfl, x.getD j 0, v, rfl, rfl, .inl ⟨by omega, by omega⟩, _, _, rfl, rfl, .int p, rfl, _, p, rfl, rfl, hp, hQ⟩
def sp_plain (K : PySem.W.Frag) : Sp := fun vs H Q _ => ∃ (a : Addr) (ws : List V) (rs : List (List Int)) (p : Int) (n : Nat), vs = [.int p, .int (n : Int), .ref a] ∧ SqT K H a ws ∧ DpAll K H ws (rs.map rowD) ∧ rs.length ≤ 100 ∧ RowsOk p n rs ∧ Fld p ∧ p ≤ 1000 ∧ n ≤ 100 ∧
  ∀ (H' : Hp) (l : Addr) (ws' : List V), Same H H' → H' l = some (.tup ws') → DpAll K H' ws' ((plainR p n rs).map rowD) → Q (.ref l) H'
theorem ok__law_plain (T : Top K mg) : Ok P w K mg base 2 "_law_plain" ["_law_p", "_law_n", "_law_rows_here"] (sp_plain K) := by
  have O__law_contrary := ok__law_contrary (P := P) (w := w) (base := base) T
  have O__law_less := ok__law_less (P := P) (w := w) (base := base) T
  refine T.d__law_plain.ok sc__law_plain (fun vs H Q E h => ?_) (fun f cdv A outer s H vs Q E hr h => ?_)
  · obtain ⟨a, ws, rs, p, n, rfl, _⟩ := h
    rfl
  · obtain ⟨a, ws, rs, p, n, rfl, hA, hR, hl, hro, hF, hp, hn, q⟩ := h
    refine ⟨_, ((pss_cons (ps_setLc (i := 4) (own := [("_law_row_here", 3)]) (g := gName 3) (by rfl) sc__law_plain.nd rfl rfl (sw_true rfl rfl rfl (by decide +kernel)) (pi_tup (pv 2)) (blkOk_by (own := [("_law_row_here", 3)]) (N := N__law_plain) (sc := defScope s__law_plain) (by decide +kernel)) (fun _ _ _ _ _ => (pg_name (i := 3) sc__law_plain.nd rfl (.inl rfl))) (fun _ _ _ _ _ => pts_nil) (fun _ _ _ _ _ => (pe_callTy (show CallR _ (.type "list") (rListQ K) from call_list_of) (by rfl) T.b_list (by decide +kernel) (pa_cons (pv 3) pa_nil))))
      (pss_cons (ps_set (i := 5) sc__law_plain.nd rfl (.inl rfl) (pe_lst pa_nil))
      (pss_cons (ps_for PassesOwn.never (by rfl) (pi_range1 (by rfl) T.b_range (pa_cons (pv 1) pa_nil)) (pg_name (i := 6) sc__law_plain.nd rfl (.inr rfl))
        (pss_cons (ps_setLc (i := 7) (own := [("_law_row_here", 3)]) (g := gName 3) (by rfl) sc__law_plain.nd rfl rfl (sw_true rfl rfl rfl (by decide +kernel)) (pi_list (pv 4)) (blkOk_by (own := [("_law_row_here", 3)]) (N := N__law_plain) (sc := defScope s__law_plain) (by decide +kernel)) (fun _ _ _ _ _ => (pg_name (i := 3) sc__law_plain.nd rfl (.inl rfl))) (fun _ _ _ _ _ => (pts_one (pt_cmpR op_ne (pe_ix (show IxR _ (rIxL K) from ix_list) (pv 3) (pv 6) (fun _ _ => rfl)) pe_int (nomark _)))) (fun _ _ _ _ _ => (pv 3)))
        (pss_one (ps_if (pt_cmpR (op_neNil hr.units) (pv 7) (pe_lst pa_nil) (nomark _))
          (pss_cons (ps_set (i := 8) sc__law_plain.nd rfl (.inr rfl) (pe_callO O__law_contrary (hr.mono (by omega)) (by rfl) (pa_cons (pv 0) (pa_cons (pe_ix ix_list (pe_ix ix_list (pv 7) pe_int (fun _ _ => rfl)) (pv 6) (fun _ _ => rfl)) pa_nil))))
          (pss_cons (ps_set (i := 10) sc__law_plain.nd rfl (.inr rfl) (pe_lc (own := [("_law_rest", 9)]) (g := gName 9) (by rfl) sc__law_plain.nd (pi_list (pe_ix ix_list (pv 7) pe_int (fun _ _ => rfl))) (blkOk_by (own := [("_law_rest", 9)]) (N := N__law_plain) (sc := defScope s__law_plain) (by decide +kernel)) (fun _ _ _ _ _ => (pg_name (i := 9) sc__law_plain.nd rfl (.inl rfl))) (fun _ _ _ _ _ => pts_nil) (fun _ _ _ _ _ => (pe_op op_mod (pe_op op_mul (pv 8) (pv 9)) (pv 0)))))
          (pss_cons (ps_setLc (i := 4) (own := [("_law_row_here", 3)]) (g := gName 3) (by rfl) sc__law_plain.nd rfl rfl (sw_true rfl rfl rfl (by decide +kernel)) (pi_list (pv 4)) (blkOk_by (own := [("_law_row_here", 3)]) (N := N__law_plain) (sc := defScope s__law_plain) (by decide +kernel)) (fun _ _ _ _ _ => (pg_name (i := 3) sc__law_plain.nd rfl (.inl rfl))) (fun _ _ _ _ _ => pts_nil) (fun _ _ _ _ _ => (pe_callO O__law_less (hr.mono (by omega)) (by rfl) (pa_cons (pv 0) (pa_cons (pv 3) (pa_cons (pv 10) (pa_cons (pv 6) pa_nil)))))))
          (pss_one (ps_set (i := 5) sc__law_plain.nd rfl (.inl rfl) (pe_op op_cat (pe_lc (own := [("_law_row_here", 3)]) (g := gName 3) (by rfl) sc__law_plain.nd (pi_list (pv 5)) (blkOk_by (own := [("_law_row_here", 3)]) (N := N__law_plain) (sc := defScope s__law_plain) (by decide +kernel)) (fun _ _ _ _ _ => (pg_name (i := 3) sc__law_plain.nd rfl (.inl rfl))) (fun _ _ _ _ _ => pts_nil) (fun _ _ _ _ _ => (pe_callO O__law_less (hr.mono (by omega)) (by rfl) (pa_cons (pv 0) (pa_cons (pv 3) (pa_cons (pv 10) (pa_cons (pv 6) pa_nil))))))) (pe_lst (pa_cons (pv 10) pa_nil))))))))
          pss_nil))))
      (pss_one (ps_ret (pe_callTy call_tuple_of (by rfl) T.b_tuple (by decide +kernel) (pa_cons (pe_lc (own := [("_law_row_here", 3)]) (g := gName 3) (by rfl) sc__law_plain.nd (pi_list (pv 5)) (blkOk_by (own := [("_law_row_here", 3)]) (N := N__law_plain) (sc := defScope s__law_plain) (by decide +kernel)) (fun _ _ _ _ _ => (pg_name (i := 3) sc__law_plain.nd rfl (.inl rfl))) (fun _ _ _ _ _ => pts_nil) (fun _ _ _ _ _ => (pe_callTy (show CallR _ (.type "tuple") (rTupQ K) from call_tuple_of) (by rfl) T.b_tuple (by decide +kernel) (pa_cons (pv 3) pa_nil)))) pa_nil)))))))), ?_⟩
    have hp2 := hF.1
    have rR : RepAll K H NB ws (rs.map rowD) := rep_rows hR
    have lw : ws.length = rs.length := by
      have := dpAll_len hR
      rw [List.length_map] at this
      exact this
    -- left: lists of the rows
    refine ⟨.ref a, rfl, a, rfl, ⟨_, hA⟩, lc_mapR (fun d => lstD (intsOf d)) (walk_tup (K := K) (a := a) (xs := ws)) (fun H' s => Same.tup s hA) rR (by omega) (fun _ => rfl) (fun v d H' Q' md rv sm hQ => ?_) (fun D0 H1 vl s1 n1 e1 r1 => ?_)⟩
    · obtain ⟨r, mr, rfl⟩ := List.mem_map.mp md
      obtain ⟨b, rfl, hb⟩ := rep_row rv
      refine ⟨.ref b, rfl, b, _, rfl, .inr hb, fun l nl => hQ (.ref l) _ (same_upd nl) ?_⟩
      rw [ints_row]
      exact .lst upd_same (fun z => z nl) (repAll_ints r)
    rw [List.map_map] at r1
    have r1 : RepAll K H1 NB vl (rs.map lstD) := by
      have e : ((fun d => lstD (intsOf d)) ∘ rowD) = lstD := by
        funext r
        show lstD (intsOf (rowD r)) = lstD r
        rw [ints_row]
      rw [e] at r1
      exact repAll_weak (fun _ h => h.elim) _ _ r1
    refine ⟨Nat.zero_le _, fun F0 nF => ?_⟩
    generalize h2 : upd H1 F0 _ = H2
    obtain ⟨s2, e2⟩ := new_of h2 nF
    refine ⟨.int (n : Int), rfl, (n : Int), rfl, by omega, by omega, ?_⟩
    rw [show ((n : Int)).toNat = n from rfl]
    refine for_range (lo := 0) (n := n) (fun k σ H' => Same H H' ∧ ∃ (la fa : Addr) (vl vf : List V) (y3 y6 y7 y8 y9 y10 : Option V), H' la = some (.lst vl) ∧ RepAll K H' NB vl (((List.range k).foldl (stepR p) (rs, [])).1.map lstD) ∧ H' fa = some (.lst vf) ∧ RepAll K H' NB vf (((List.range k).foldl (stepR p) (rs, [])).2.map lstD) ∧
      RowsOk p n ((List.range k).foldl (stepR p) (rs, [])).1 ∧ RowsOk p n ((List.range k).foldl (stepR p) (rs, [])).2 ∧ ((List.range k).foldl (stepR p) (rs, [])).1.length ≤ 100 ∧ ((List.range k).foldl (stepR p) (rs, [])).2.length ≤ k ∧ σ = [some (.int p), some (.int (n : Int)), some (.ref a), y3, some (.ref la), some (.ref fa), y6, y7, y8, y9, y10])
      ⟨s1.trans s2, D0, F0, vl, [], none, none, none, none, none, none, s2 _ _ e1, repAll_stays (Stays.of s2) _ _ r1, e2, .nil, hro, fun r hr => (nomatch hr), hl, Nat.le_refl _, rfl⟩ (fun k σ H3 hk hW => ?_) (fun σ H3 hW => ?_)
    · obtain ⟨s3, la, fa, vl, vf, y3, y6, y7, y8, y9, y10, ela, rl, efa, rf, okl, okf, ll, lf, rfl⟩ := hW
      rw [foldl_succ]
      generalize hst : (List.range k).foldl (stepR p) (rs, []) = st at rl rf okl okf ll lf ⊢
      have hsr := step_rows (by omega : (0 : Int) < p) okl okf k
      have lvl : vl.length = st.1.length := by
        have := repAll_len rl
        rw [List.length_map] at this
        exact this
      have lvf : vf.length = st.2.length := by
        have := repAll_len rf
        rw [List.length_map] at this
        exact this
      -- some
      refine ⟨.ref la, rfl, la, rfl, ⟨_, .inl (.inl ela)⟩, lc_filterR (nzAt k) (walk_list (K := K) (a := la) (xs := vl)) (fun H' s => .inl (.inl (s _ _ ela))) rl (by omega) (fun _ => rfl) (by show 3 < 11; decide) (fun v d H' Q' md rv sm hQ => ?_) (fun D H4 sv s4 n4 e4 r4 => ?_)⟩
      · obtain ⟨r, mr, rfl⟩ := List.mem_map.mp md
        obtain ⟨l, rfl, hl'⟩ := rep_lst rv
        have hk' : k < r.length := by rw [(okl r mr).1]; exact hk
        have gk : atI (r.map V.int) (0 + (k : Int)) = some (.int (r.getD k 0)) := at_of (j := k) (by omega) (by rw [List.getElem?_map, List.getElem?_eq_getElem hk', gd_lt hk']; rfl)
        refine ⟨.ref l, rfl, .int (0 + k), rfl, l, _, _, _, rfl, rfl, .inl (.inl hl'), gk, rfl, _, rfl, ?_⟩
        have e : nzAt k (lstD r) = !decide (V.int (r.getD k 0) = V.int 0) := by
          unfold nzAt
          rw [ints_lst]
          by_cases h0 : r.getD k 0 = 0
          · rw [h0]; rfl
          · rw [decide_eq_true h0, decide_eq_false (fun z => h0 (V.int.inj z))]
            rfl
        rw [← e]
        exact hQ H' (Same.refl H')
      have ef : (st.1.map lstD).filter (nzAt k) = (st.1.filter fun r => decide (r.getD k 0 ≠ 0)).map lstD := by
        rw [List.filter_map]
        congr 1
        apply List.filter_congr
        intro r _
        show nzAt k (lstD r) = _
        unfold nzAt
        rw [ints_lst]
      rw [ef] at r4
      refine ⟨.ref D, rfl, Nat.zero_le _, fun z nz => ?_⟩
      generalize h5 : upd H4 z _ = H5
      obtain ⟨s5, e5⟩ := new_of h5 nz
      refine ⟨D, z, sv, rfl, rfl, s5 _ _ e4, e5, _, rfl, ?_⟩
      have t35 : Same H3 H5 := s4.trans s5
      have hsame := hsr
      unfold stepR
      unfold stepR at hsame
      cases hfl : st.1.filter (fun r => decide (r.getD k 0 ≠ 0)) with
      | nil =>
        rw [hfl] at r4 hsame
        cases r4
        exact iteF ⟨s3.trans t35, la, fa, vl, vf, _, _, _, _, _, _, t35 _ _ ela, repAll_stays (Stays.of t35) _ _ rl, t35 _ _ efa, repAll_stays (Stays.of t35) _ _ rf, okl, okf, ll, by omega, rfl⟩
      | cons ra rr =>
        rw [hfl] at r4 hsame
        obtain ⟨ma, qa⟩ := Lin.filter_head hfl
        have oka := okl ra ma
        have hka : k < ra.length := by rw [oka.1]; exact hk
        have nza : ra.getD k 0 ≠ 0 := of_decide_eq_true qa
        have ba := oka.2 (ra.getD k 0) (by rw [gd_lt hka]; exact List.getElem_mem hka)
        cases r4 with
        | @cons wa wr _ _ h1 h2 =>
          obtain ⟨lA, rfl, hlA⟩ := rep_lst h1
          have hlA5 := s5 _ _ hlA
          have gk : atI (ra.map V.int) (0 + (k : Int)) = some (.int (ra.getD k 0)) := at_of (j := k) (by omega) (by rw [List.getElem?_map, List.getElem?_eq_getElem hka, gd_lt hka]; rfl)
          -- part
          refine iteT ⟨.int p, rfl, .ref D, rfl, D, _, 0, .ref lA, rfl, rfl, .inl (.inl (s5 _ _ e4)), at_of (j := 0) rfl rfl, .int (0 + k), rfl, lA, _, _, _, rfl, rfl, .inl (.inl hlA5), gk, p, ra.getD k 0, rfl, hF, hp, by omega, ba.2, fun H6 s6 => ?_⟩
          have hc := ctr_ok hF (show 1 ≤ ra.getD k 0 by omega) ba.2
          have hlA6 := s6 _ _ hlA5
          -- own
          refine ⟨.ref D, rfl, D, _, 0, .ref lA, rfl, rfl, .inl (.inl (s6 _ _ (s5 _ _ e4))), at_of (j := 0) rfl rfl, lA, rfl, ⟨_, .inl (.inl hlA6)⟩, lc_listI (fun r => ctr p (ra.getD k 0) * r % p) (.inl (.inl hlA6)) (by omega) (fun _ => rfl) (fun x H' Q' _ _ hQ => ?_) (fun D2 H7 s7 n7 e7 => ?_)⟩
          · exact ⟨.int (ctr p (ra.getD k 0)), rfl, .int x, rfl, _, x, rfl, rfl, .inl ⟨by omega, by omega⟩, .int p, rfl, _, p, rfl, rfl, by omega, hQ⟩
          have e7 : H7 D2 = some (.lst ((ownR p ra k).map V.int)) := e7
          have okown := own_row (by omega : (0 : Int) < p) oka.1 k
          have t37 : Same H3 H7 := (t35.trans s6).trans s7
          have rl7 := repAll_stays (Stays.of (bad := NB) t37) _ _ rl
          have rf7 := repAll_stays (Stays.of (bad := NB) t37) _ _ rf
          have step : ∀ (rows : List (List Int)), RowsOk p n rows → ∀ (H8 : Hp), Same H7 H8 → ∀ (v : V) (d : PyData) (H' : Hp) (Q' : VK), d ∈ rows.map lstD → Rep K H' NB v d → Same H8 H' → (∀ v' H'', Same H' H'' → Rep K H'' (fun a => H' a ≠ none) v' (lstD (lessR p (intsOf d) (ownR p ra k) k)) → Q' v' H'') → sp_less K [.int p, v, .ref D2, .int (0 + (k : Int))] H' Q' E0 := by
            intro rows okr H8 s8 v d H' Q' md rv sm hQ
            obtain ⟨r, mr, rfl⟩ := List.mem_map.mp md
            obtain ⟨l, rfl, hl'⟩ := rep_lst rv
            rw [ints_lst] at hQ
            refine ⟨l, D2, r, ownR p ra k, p, k, by rw [Int.zero_add], .inl (.inl hl'), .inl (.inl (sm _ _ (s8 _ _ e7))), by rw [(okr r mr).1]; omega, by rw [(okr r mr).1]; exact hk, by omega, by omega, (okr r mr).2, fun H'' l' s'' n'' e'' => hQ (.ref l') H'' s'' ?_⟩
            exact .lst e'' (fun z => z n'') (repAll_ints _)
          have em : ∀ rows : List (List Int), (rows.map lstD).map (fun d => lstD (lessR p (intsOf d) (ownR p ra k) k)) = (rows.map fun r => lessR p r (ownR p ra k) k).map lstD := by
            intro rows
            rw [List.map_map, List.map_map]
            apply List.map_congr_left
            intro r _
            show lstD (lessR p (intsOf (lstD r)) (ownR p ra k) k) = lstD (lessR p r (ownR p ra k) k)
            rw [ints_lst]
          -- left
          refine ⟨.ref la, rfl, la, rfl, ⟨_, .inl (.inl (t37 _ _ ela))⟩, lc_mapR (fun d => lstD (lessR p (intsOf d) (ownR p ra k) k)) (walk_list (K := K) (a := la) (xs := vl)) (fun H' s => .inl (.inl (s _ _ (t37 _ _ ela)))) rl7 (by omega) (fun _ => rfl) (fun v d H' Q' md rv sm hQ => ?_) (fun D3 H8 v3 s8 n8 e8 r8 => ?_)⟩
          · exact ⟨.int p, rfl, v, rfl, .ref D2, rfl, .int (0 + k), rfl, step st.1 okl H7 (Same.refl H7) v d H' Q' md rv sm hQ⟩
          rw [em] at r8
          have r8 := repAll_weak (b2 := NB) (fun _ h => h.elim) _ _ r8
          have t38 := t37.trans s8
          -- found
          refine ⟨.ref fa, rfl, fa, rfl, ⟨_, .inl (.inl (t38 _ _ efa))⟩, lc_mapR (fun d => lstD (lessR p (intsOf d) (ownR p ra k) k)) (walk_list (K := K) (a := fa) (xs := vf)) (fun H' s => .inl (.inl (s _ _ (t38 _ _ efa)))) (repAll_stays (Stays.of s8) _ _ rf7) (by omega) (fun _ => rfl) (fun v d H' Q' md rv sm hQ => ?_) (fun D4 H9 v4 s9 n9 e9 r9 => ?_)⟩
          · exact ⟨.int p, rfl, v, rfl, .ref D2, rfl, .int (0 + k), rfl, step st.2 okf H8 s8 v d H' Q' md rv sm hQ⟩
          rw [em] at r9
          have r9 := repAll_weak (b2 := NB) (fun _ h => h.elim) _ _ r9
          have lv4 : v4.length = st.2.length := by
            have := repAll_len r9
            rw [List.length_map, List.length_map] at this
            exact this
          refine ⟨.ref D2, rfl, sz1000 (by decide : (1 : Nat) ≤ 1000), fun u nu => ?_⟩
          generalize h10 : upd H9 u _ = H10
          obtain ⟨s10, e10⟩ := new_of h10 nu
          refine ⟨D4, u, _, _, rfl, rfl, s10 _ _ e9, e10, sz1000 (by simp; omega), fun N nN => ?_⟩
          generalize h11 : upd H10 N _ = H11
          obtain ⟨s11, e11⟩ := new_of h11 nN
          have t811 : Same H8 H11 := (s9.trans s10).trans s11
          have t711 : Same H7 H11 := s8.trans t811
          refine ⟨s3.trans (t37.trans t711), D3, N, v3, _, _, _, _, _, _, _, t811 _ _ e8, repAll_stays (Stays.of t811) _ _ r8, e11, ?_, hsame.1, hsame.2.1, by rw [List.length_map]; exact ll, by rw [List.length_append, List.length_map]; simp; omega, rfl⟩
          rw [List.map_append]
          exact repAll_append (repAll_stays (Stays.of (s10.trans s11)) _ _ r9) (.cons (.lst (t711 _ _ e7) (fun z => z) (repAll_ints _)) .nil)
    · obtain ⟨s3, la, fa, vl, vf, y3, y6, y7, y8, y9, y10, ela, rl, efa, rf, okl, okf, ll, lf, rfl⟩ := hW
      have epl : ((List.range n).foldl (stepR p) (rs, [])).2 = plainR p n rs := rfl
      rw [epl] at rf okf lf
      have lvf : vf.length = (plainR p n rs).length := by
        have := repAll_len rf
        rw [List.length_map] at this
        exact this
      refine ⟨.ref fa, rfl, fa, rfl, ⟨_, .inl (.inl efa)⟩, lc_mapR (fun d => rowD (intsOf d)) (walk_list (K := K) (a := fa) (xs := vf)) (fun H' s => .inl (.inl (s _ _ efa))) rf (by omega) (fun _ => rfl) (fun v d H' Q' md rv sm hQ => ?_) (fun D3 H8 v3 s8 n8 e8 r8 => ?_)⟩
      · obtain ⟨r, mr, rfl⟩ := List.mem_map.mp md
        obtain ⟨l, rfl, hl'⟩ := rep_lst rv
        refine ⟨.ref l, rfl, l, _, rfl, .inl ⟨.inl (.inl hl'), fun l' nl' => hQ (.ref l') _ (same_upd nl') ?_⟩⟩
        rw [ints_lst]
        exact row_rep (.inl (.inl upd_same))
      have e : (List.map lstD (plainR p n rs)).map (fun d => rowD (intsOf d)) = (plainR p n rs).map rowD := by
        rw [List.map_map]
        apply List.map_congr_left
        intro r _
        show rowD (intsOf (lstD r)) = rowD r
        rw [ints_lst]
      rw [e] at r8
      refine ⟨D3, _, rfl, .inl ⟨.inl (.inl e8), fun l nl => ?_⟩⟩
      generalize h9 : upd H8 l _ = H9
      obtain ⟨s9, e9⟩ := new_of h9 nl
      exact q H9 l v3 ((s3.trans s8).trans s9) e9 (dpAll_same s9 _ _ (rows_rep r8))
def sp_has (K : PySem.W.Frag) : Sp := fun vs H Q _ => ∃ (a b : Addr) (ws : List V) (rs : List (List Int)) (r : List Int) (p : Int) (n : Nat), vs = [.int p, .int (n : Int), .ref a, .ref b] ∧ SqT K H a ws ∧ DpAll K H ws (rs.map rowD) ∧ SqT K H b (r.map V.int) ∧ rs.length ≤ 99 ∧ RowsOk p n rs ∧ RowsOk p n [r] ∧ Fld p ∧ p ≤ 1000 ∧ n ≤ 100 ∧
  ∀ (H' : Hp), Same H H' → Q (.bl (hasR p n rs r)) H'
theorem ok__law_has (T : Top K mg) : Ok P w K mg base 3 "_law_has" ["_law_p", "_law_n", "_law_rows_here", "_law_row_here"] (sp_has K) := by
  have O__law_plain := ok__law_plain (P := P) (w := w) (base := base) T
  refine T.d__law_has.ok sc__law_has (fun vs H Q E h => ?_) (fun f cdv A outer s H vs Q E hr h => ?_)
  · obtain ⟨a, b, ws, rs, r, p, n, rfl, _⟩ := h
    rfl
  · obtain ⟨a, b, ws, rs, r, p, n, rfl, hA, hR, hb, hl, hro, okr, hF, hp, hn, q⟩ := h
    refine ⟨_, ((pss_one (ps_ret (pe_cmpR op_eq (pe_callB call_len_seq (by rfl) T.b_len (by decide +kernel) (pa_cons (pe_callO O__law_plain (hr.mono (by omega)) (by rfl) (pa_cons (pv 0) (pa_cons (pv 1) (pa_cons (pe_op op_catB (pv 2) (pe_tup (pa_cons (pv 3) pa_nil))) pa_nil)))) pa_nil)) (pe_callB call_len_seq (by rfl) T.b_len (by decide +kernel) (pa_cons (pe_callO O__law_plain (hr.mono (by omega)) (by rfl) (pa_cons (pv 0) (pa_cons (pv 1) (pa_cons (pv 2) pa_nil)))) pa_nil)) (nomark _))))), ?_⟩
    have lw : ws.length = rs.length := by
      have := dpAll_len hR
      rw [List.length_map] at this
      exact this
    refine ⟨.int p, rfl, .int n, rfl, .ref a, rfl, .ref b, rfl, sz1000 (by decide : (1 : Nat) ≤ 1000), fun u nu => ?_⟩
    generalize h1 : upd H u _ = H1
    obtain ⟨s1, e1⟩ := new_of h1 nu
    refine ⟨a, u, ws, _, rfl, rfl, Same.tup s1 hA, .inl (.inl e1), sz1000 (by simp; omega), fun m H2 s2 h2 => ?_⟩
    have s12 := s1.trans s2
    have cat : DpAll K H2 (ws ++ [V.ref b]) ((rs ++ [r]).map rowD) := by
      rw [List.map_append]
      exact dpAll_append (dpAll_same s12 _ _ hR) (.cons (row_dp (Same.tup s12 hb)) .nil)
    refine ⟨m, _, rs ++ [r], p, n, rfl, h2, cat, by simp; omega, fun x hx => ?_, hF, hp, hn, fun H3 l3 w3 s3 e3 d3 => ?_⟩
    · rcases List.mem_append.mp hx with h' | h'
      · exact hro x h'
      · exact okr x h'
    have lw3 : w3.length = (plainR p n (rs ++ [r])).length := by
      have := dpAll_len d3
      rw [List.length_map] at this
      exact this
    have s13 := s12.trans s3
    refine ⟨l3, _, rfl, .inr (.inl (.inl e3)), .int p, rfl, .int n, rfl, .ref a, rfl, a, ws, rs, p, n, rfl, Same.tup s13 hA, dpAll_same s13 _ _ hR, by omega, hro, hF, hp, hn, fun H4 l4 w4 s4 e4 d4 => ?_⟩
    have lw4 : w4.length = (plainR p n rs).length := by
      have := dpAll_len d4
      rw [List.length_map] at this
      exact this
    refine ⟨l4, _, rfl, .inr (.inl (.inl e4)), rfl, ?_⟩
    have e : decide (V.int (w3.length : Int) = V.int (w4.length : Int)) = hasR p n rs r := by
      unfold hasR
      rw [lw3, lw4]
      by_cases h : (plainR p n (rs ++ [r])).length = (plainR p n rs).length
      · rw [h, decide_eq_true rfl, decide_eq_true rfl]
      · rw [decide_eq_false h, decide_eq_false (fun z => h (by have := V.int.inj z; omega))]
    rw [e]
    exact q H4 (s13.trans s4)
/-- what is mixed is made -/
def sp_mixed2 (K : PySem.W.Frag) : Sp := fun vs H Q _ => ∃ (d c o : Addr) (t p n : Int) (ws : List V) (rs : List (List Int)), vs = [.ref d, .int p, .int n, .ref o] ∧ Deck H d c t ∧ t ≤ 990000 ∧ 2 ≤ p ∧ p ≤ 1000 ∧ 1 ≤ n ∧ n ≤ 100 ∧ ((H o = some (.lst ws) ∧ ¬ Bad d c o) ∨ SqT K H o ws) ∧ DpAll K H ws (rs.map rowD) ∧ rs.length ≤ 100 ∧ (∀ r ∈ rs, (r.length : Int) = n) ∧
  ∀ H' a r t', Kept d c H H' → Deck H' d c t' → t' ≤ t + rs.length → SqT K H' a (r.map V.int) → (r.length : Int) = n → RowOk p r → InR p rs r → Q (.ref a) H'
theorem ok_mixed2 (T : Top K mg) : Ok P w K mg base 2 "_law_mixed" ["_law_deck_here", "_law_p", "_law_n", "_law_rows_here"] (sp_mixed2 K) := by
  have O__law_draw := ok__law_draw (P := P) (w := w) (base := base) T
  have O__law_plus := ok__law_plus (P := P) (w := w) (base := base) T
  refine T.d__law_mixed.ok sc__law_mixed (fun vs H Q E h => ?_) (fun f cdv A outer s H vs Q E hr h => ?_)
  · obtain ⟨d, c, o, t, p, n, ws, rs, rfl, _⟩ := h
    rfl
  · obtain ⟨d, c, o, t, p, n, ws, rs, rfl, D0, ht, hp1, hp2, hn1, hn2, hq, hR, hl, hln, q⟩ := h
    refine ⟨_, ((pss_cons (ps_set (i := 4) sc__law_mixed.nd rfl (.inl rfl) (pe_op op_repB (pe_tup (pa_cons pe_int pa_nil)) (pv 2)))
      (pss_cons (ps_for PassesOwn.never (by rfl) (pi_seqv 3 (pv 3)) (pg_name (i := 5) sc__law_mixed.nd rfl (.inl rfl))
        (pss_one (ps_set (i := 4) sc__law_mixed.nd rfl (.inl rfl) (pe_callO O__law_plus (hr.mono (by omega)) (by rfl) (pa_cons (pv 1) (pa_cons (pv 4) (pa_cons (pv 5) (pa_cons (pe_callO O__law_draw (hr.mono (by omega)) (by rfl) (pa_cons (pv 0) (pa_cons (pv 1) pa_nil))) pa_nil))))))))
      (pss_one (ps_ret (pv 4)))))), ?_⟩
    refine ⟨sz1000 (by decide : (1 : Nat) ≤ 1000), fun z nz => ?_⟩
    generalize h1 : upd H z _ = H1
    obtain ⟨s1, e1⟩ := new_of h1 nz
    have e1 : H1 z = some (.tup ([0].map V.int)) := e1
    have lw := rows_len hR
    refine ⟨.int n, rfl, z, n, _, rfl, rfl, .inl (.inl e1), List.cons_ne_nil _ _, hn1, by omega, by decide, fun y H2 s2 hy => ?_⟩
    have hy : SqT K H2 y ((List.replicate n.toNat (0 : Int)).map V.int) := (rep_int n.toNat 0) ▸ hy
    have D2 := D0.same (s1.trans s2)
    have hR2 := dpAll_same (s1.trans s2) _ _ hR
    have hq2 : (∀ H', Kept d c H2 H' → SqL K H' o ws) ∨ (∀ H', Kept d c H2 H' → SqT K H' o ws) := by
      rcases hq with ⟨eo, bo⟩ | hT
      · exact .inl fun H' k => .inl (.inl (k _ _ (s2 _ _ (s1 _ _ eo)) (fun z => bo (.inl z)) (fun z => bo (.inr z))))
      · exact .inr fun H' k => Kept.tup D2 k (Same.tup (s1.trans s2) hT)
    refine ⟨o, ws, fun H' => Kept d c H2 H', rfl, Kept.refl _ _ _, hq2, fun J wk => for_it wk (fun i σ H' => Kept d c H2 H' ∧ ∃ (t' : Int) (y : Addr) (r : List Int) (y5 : Option V), Deck H' d c t' ∧ t' ≤ t + i ∧ SqT K H' y (r.map V.int) ∧ (r.length : Int) = n ∧ RowOk p r ∧ InR p rs r ∧ σ = [some (.ref d), some (.int p), some (.int n), some (.ref o), some (.ref y), y5]) ⟨Kept.refl _ _ _, t, y, _, none, D2, by omega, hy, by rw [List.length_replicate]; omega, fun x hx => ?_, InR.noughts _ _ _, rfl⟩ (fun i σ H' _ hW => hW.1) (fun i x σ H' H'' hi hW hY => ?_) (fun σ H' hW => ?_)⟩
    · have := List.eq_of_mem_replicate hx
      omega
    · obtain ⟨rfl, hx⟩ := hY
      obtain ⟨k', t', y1, r, y5, D', ht', hy1, hr1, ro, inr, rfl⟩ := hW
      obtain ⟨b, r2, rfl, g2, m2, hb⟩ := dpAll_row hR2 hx
      have hb' := Kept.tup D2 k' hb
      refine ⟨.int p, rfl, .ref y1, rfl, .ref b, rfl, .ref d, rfl, .int p, rfl, d, c, t', p, rfl, D', by omega, by omega, by omega, fun H3 m k3 D3 m0 m1 => ?_⟩
      refine ⟨y1, b, r, r2, p, m, rfl, Kept.tup D' k3 hy1, Kept.tup D' k3 hb', by omega, by omega, by omega, by omega, fun H4 l s4 nl e4 => ?_⟩
      have e : r.length = r2.length := by
        have := hln r2 m2
        omega
      exact ⟨fun b o h n1 n2 => s4 b o (k3 b o (k' b o h n1 n2) n1 n2), t' + 1, l, plusR p r r2 m, _, D3.same s4, by omega, .inl (.inl e4), by rw [plus_len e]; exact hr1, plus_ok (by omega), InR.plus m e inr (InR.mem m2), rfl⟩
    · obtain ⟨k', t', y1, r, y5, D', ht', hy1, hr1, ro, inr, rfl⟩ := hW
      exact ⟨.ref y1, rfl, q H' y1 r t' (fun b o h n1 n2 => k' b o (s2 b o (s1 b o h)) n1 n2) D' (by omega) hy1 hr1 ro inr⟩
def sp_turned (K : PySem.W.Frag) : Sp := fun vs H Q _ => ∃ (d c a : Addr) (t : Int) (ws : List V), vs = [.ref d, .ref a] ∧ Deck H d c t ∧ t ≤ 990000 ∧ SqT K H a ws ∧ ws.length ≤ 100 ∧
  ∀ H' l ys t', Kept d c H H' → Deck H' d c t' → t' ≤ t + ws.length → H' l = some (.tup ys) → ys.Perm ws → Q (.ref l) H'
theorem ok__law_turned (T : Top K mg) : Ok P w K mg base 2 "_law_turned" ["_law_deck_here", "_law_things"] (sp_turned K) := by
  have O__law_draw := ok__law_draw (P := P) (w := w) (base := base) T
  refine T.d__law_turned.ok sc__law_turned (fun vs H Q E h => ?_) (fun f cdv A outer s H vs Q E hr h => ?_)
  · obtain ⟨d, c, a, t, ws, rfl, _⟩ := h
    rfl
  · obtain ⟨d, c, a, t, ws, rfl, D0, ht, hA, hl, q⟩ := h
    refine ⟨_, ((pss_cons (ps_set (i := 2) sc__law_turned.nd rfl (.inr rfl) (pe_callTy call_list_of (by rfl) T.b_list (by decide +kernel) (pa_cons (pv 1) pa_nil)))
      (pss_one (ps_ret (pe_callTy call_tuple_of (by rfl) T.b_tuple (by decide +kernel) (pa_cons (pe_lc (own := [("_law_thing", 3)]) (g := gName 3) (by rfl) sc__law_turned.nd (pi_tup (pv 1)) (blkOk_by (own := [("_law_thing", 3)]) (N := N__law_turned) (sc := defScope s__law_turned) (by decide +kernel)) (fun _ _ _ _ _ => (pg_name (i := 3) sc__law_turned.nd rfl (.inl rfl))) (fun _ _ _ _ _ => pts_nil) (fun _ _ _ _ _ => (pe_bmK (K := K) (by rfl) (pe_bm PySem.F.plainAttrs_list PySem.F.slot_list_pop PySem.F.type_list_pop mt_popAt (pv 2) (pa_cons (pe_callO O__law_draw (hr.mono (by omega)) (by rfl) (pa_cons (pv 0) (pa_cons (pe_callB (show CallR _ (.builtin "len") (rLenQ K) from call_len_seq) (by rfl) T.b_len (by decide +kernel) (pa_cons (pv 2) pa_nil)) pa_nil))) pa_nil))))) pa_nil)))))), ?_⟩
    refine ⟨.ref a, rfl, a, ws, rfl, .inr hA, fun o no => ?_⟩
    have bo := D0.fresh no
    generalize h1 : upd H o _ = H1
    obtain ⟨s1, e1⟩ := new_of h1 no
    have D1 := D0.same s1
    refine ⟨.ref a, rfl, a, rfl, ⟨_, Same.tup s1 hA⟩, fun B nB => ?_⟩
    have nB0 : H B = none := by
      cases hB : H B with
      | none => rfl
      | some x => rw [s1 _ _ hB] at nB; cases nB
    have oB : o ≠ B := fun z => by rw [z, nB] at e1; cases e1
    have bB := D1.fresh nB
    have sB := same_upd (o := .lst []) nB
    refine lc_it (walk_tup (K := K) (a := a) (xs := ws)) (fun k H' => Kept d c H H' ∧ ∃ (t' : Int) (ys xs : List V), Deck H' d c t' ∧ t' ≤ t + k ∧ H' B = some (.lst ys) ∧ H' o = some (.lst xs) ∧ (ys ++ xs).Perm ws ∧ ys.length = k) ⟨Kept.of (s1.trans sB), t, [], ws, D1.same sB, by omega, upd_same, sB _ _ e1, .refl _, rfl⟩ (fun k H' _ hP => Kept.tup D0 hP.1 hA) (fun k x H2 H3 hk hP hY => ?_) (fun H' hP => ?_)
    · obtain ⟨rfl, hx⟩ := hY
      obtain ⟨k', t', ys, xs, D', ht', eB, eo, pm, ly⟩ := hP
      have lx := pm.length_eq
      rw [List.length_append] at lx
      refine ⟨rfl, .ref o, rfl, .inl ⟨rfl, _, .inl (.inl eo)⟩, .ref d, rfl, .ref o, rfl, o, xs, rfl, .inl (.inl (.inl eo)), d, c, t', _, rfl, D', by omega, by omega, by omega, fun H4 j k4 D4 j0 j1 => ?_⟩
      have eo4 := k4 _ _ eo (fun z => bo (.inl z)) (fun z => bo (.inr z))
      have eB4 := k4 _ _ eB (fun z => bB (.inl z)) (fun z => bB (.inr z))
      have hj : j.toNat < xs.length := by omega
      refine ⟨o, xs, j, j.toNat, xs[j.toNat], rfl, rfl, eo4, by omega, by omega, ?_, List.getElem?_eq_getElem hj, ys, ?_, small1000 (by omega), ((k'.trans k4).mut no).mut nB0, t' + 1, ys ++ [xs[j.toNat]], xs.eraseIdx j.toNat, (D4.mut bo).mut bB, by omega, upd_same, ?_, ?_, by rw [List.length_append, ly]; rfl⟩
      · simp [seqIndex?, show ¬ j < 0 by omega]
        omega
      · rw [upd_ne (Ne.symm oB)]
        exact eB4
      · rw [upd_ne oB]
        exact upd_same
      · refine List.Perm.trans ?_ pm
        rw [List.append_assoc]
        refine List.Perm.append_left _ ?_
        rw [List.eraseIdx_eq_take_drop_succ]
        have e : xs = xs.take j.toNat ++ xs[j.toNat] :: xs.drop (j.toNat + 1) := by rw [List.getElem_cons_drop, List.take_append_drop]
        have pmid := (List.perm_middle (a := xs[j.toNat]) (l₁ := xs.take j.toNat) (l₂ := xs.drop (j.toNat + 1))).symm
        rw [← e] at pmid
        exact pmid
    · obtain ⟨k', t', ys, xs, D', ht', eB, eo, pm, ly⟩ := hP
      have lx := pm.length_eq
      rw [List.length_append] at lx
      have : xs = [] := List.length_eq_zero_iff.mp (by omega)
      subst this
      rw [List.append_nil] at pm
      refine ⟨B, _, rfl, .inl ⟨.inl (.inl eB), fun l nl => ?_⟩⟩
      have sl := same_upd (o := .tup ys) nl
      exact q _ l ys t' (k'.trans (Kept.of sl)) (D'.same sl) ht' upd_same pm
end
end OC
set_option Elab.async false
set_option linter.all false
set_option maxRecDepth 100000
set_option maxHeartbeats 4000000
namespace OC
open PySem PySem.Spec PyProof.Rows L2
section
variable {P : Program} {w : World} {K : PySem.W.Frag} {mg : Str → Option Value} {base : Heap}
theorem kept_none {d c l : Addr} {t : Int} {H H' : Hp} (D : Deck H' d c t) (k : Kept d c H H') (n : H' l = none) : H l = none := by
  cases hl : H l with
  | none => rfl
  | some o =>
    have bl := D.fresh n
    rw [k l o hl (fun z => bl (.inl z)) (fun z => bl (.inr z))] at n
    cases n
def sp_names3 : Sp := fun vs H Q _ => ∃ (d c : Addr) (t : Int) (m : Nat), vs = [.ref d, .int (m : Int)] ∧ Deck H d c t ∧ t ≤ 900000 ∧ m ≤ 26 ∧ ∀ H' a (xs : List Str) t', Kept d c H H' → Deck H' d c t' → t' ≤ t + 12 → H a = none → H' a = some (.lst (xs.map V.str)) → xs.length = m → sortedS xs = true → xs.Nodup → (∀ x ∈ xs, NameOk x) → Q (.ref a) H'
theorem ok__law_names (T : Top K mg) : Ok P w K mg base 2 "_law_names" ["_law_deck_here", "_law_many"] sp_names3 := by
  have O__law_draw := ok__law_draw (P := P) (w := w) (base := base) T
  refine T.d__law_names.ok sc__law_names (fun vs H Q E h => ?_) (fun f cdv A outer s H vs Q E hr h => ?_)
  · obtain ⟨d, c, t, m, rfl, _⟩ := h
    rfl
  · obtain ⟨d, c, t, m, rfl, D0, ht, hm, q⟩ := h
    refine ⟨_, ((pss_cons (ps_set (i := 2) sc__law_names.nd rfl (.inr rfl) pe_str)
      (pss_cons (ps_set (i := 4) sc__law_names.nd rfl (.inr rfl) (pe_join pe_str (pe_lc (own := [("_law_k", 3)]) (g := gName 3) (by rfl) sc__law_names.nd (pi_range1 (by rfl) T.b_range (pa_cons (pe_callO O__law_draw (hr.mono (by omega)) (by rfl) (pa_cons (pv 0) (pa_cons pe_int pa_nil))) pa_nil)) (blkOk_by (own := [("_law_k", 3)]) (N := N__law_names) (sc := defScope s__law_names) (by decide +kernel)) (fun _ _ _ _ _ => (pg_name (i := 3) sc__law_names.nd rfl (.inl rfl))) (fun _ _ _ _ _ => pts_nil) (fun _ _ _ _ _ => (pe_ix ix_str (pv 2) (pe_callO O__law_draw (hr.mono (by omega)) (by rfl) (pa_cons (pv 0) (pa_cons pe_int pa_nil))) (fun _ _ => rfl))))))
      (pss_cons (ps_set (i := 5) sc__law_names.nd rfl (.inr rfl) (pe_callO O__law_draw (hr.mono (by omega)) (by rfl) (pa_cons (pv 0) (pa_cons (pe_op op_add (pe_callB call_len_str (by rfl) T.b_len (by decide +kernel) (pa_cons (pv 4) pa_nil)) pe_int) pa_nil))))
      (pss_cons (ps_set (i := 6) sc__law_names.nd rfl (.inr rfl) (pe_callO O__law_draw (hr.mono (by omega)) (by rfl) (pa_cons (pv 0) (pa_cons pe_int pa_nil))))
      (pss_one (ps_ret (pe_callB cr_sortedS (by rfl) T.b_sorted (by decide +kernel) (pa_cons (pe_lc (own := [("_law_k", 3)]) (g := gName 3) (by rfl) sc__law_names.nd (pi_range1 (by rfl) T.b_range (pa_cons (pv 1) pa_nil)) (blkOk_by (own := [("_law_k", 3)]) (N := N__law_names) (sc := defScope s__law_names) (by decide +kernel)) (fun _ _ _ _ _ => (pg_name (i := 3) sc__law_names.nd rfl (.inl rfl))) (fun _ _ _ _ _ => pts_nil) (fun _ _ _ _ _ => (pe_op op_add_str (pe_op op_add_str (pe_slice C8.sl_txt (pv 4) po_none (po_some (pv 5))) (pe_ix ix_str (pv 2) (pe_op op_mod (pe_op op_add (pv 6) (pe_op op_mul pe_int (pv 3))) pe_int) (fun _ _ => rfl))) (pe_slice C8.sl_txt (pv 4) (po_some (pv 5)) po_none)))) pa_nil))))))))), ?_⟩
    refine ⟨⟨_, rfl⟩, .ref d, rfl, d, c, t, 8, rfl, D0, by omega, by decide, by decide, fun H2 lg k2 D2 a0 a1 => ⟨lg, rfl, by omega, by omega, fun D nD => ?_⟩⟩
    have lg7 : 0 ≤ lg ∧ lg ≤ 7 := by omega
    have bD := D2.fresh nD
    refine lc_range (lo := 0) (n := lg.toNat) (fun k H' => Kept d c H2 H' ∧ ∃ (t' : Int) (cs : List Nat), Deck H' d c t' ∧ t' ≤ t + 1 + k ∧ H' D = some (.lst ((cs.map fun c => SX.S [c]).map V.str)) ∧ cs.length = k ∧ ∀ x ∈ cs, 97 ≤ x ∧ x ≤ 122) ⟨Kept.of (same_upd nD), t + 1, [], D2.same (same_upd nD), by omega, upd_same, rfl, fun x hx => nomatch hx⟩ (fun k H' hk hW => ?_) (fun H' hW => ?_)
    · obtain ⟨k', t', cs, D', ht', eB, ln, ro⟩ := hW
      refine ⟨rfl, .str lettersS, rfl, .ref d, rfl, d, c, t', 26, rfl, D', by omega, by decide, by decide, fun H3 x k3 D3 x0 x1 => ?_⟩
      refine ⟨lettersS, x, _, rfl, rfl, by decide +kernel, letters_at x0 x1, ?_⟩
      refine ⟨_, k3 _ _ eB (fun z => bD (.inl z)) (fun z => bD (.inr z)), by rw [List.length_map, List.length_map]; exact small1000 (by omega), (k'.trans k3).mut nD, t' + 1, cs ++ [97 + x.toNat], D3.mut bD, by omega, ?_, by rw [List.length_append, ln]; rfl, fun y hy => ?_⟩
      · rw [upd_same, List.map_append, List.map_append]
        rfl
      · rcases List.mem_append.mp hy with h | h
        · exact ro y h
        · rw [List.mem_singleton.mp h]
          omega
    obtain ⟨k3, t3, cs, D3, ht3, eB, ln, ro⟩ := hW
    refine ⟨_, D, _, rfl, rfl, .inl (.inl (.inl eB)), ?_, ?_⟩
    · rw [ones_sum, List.length_map, ln, show (Str.ofString "").length = 0 from rfl]
      omega
    rw [join_cs]
    have lcs : (SX.S cs).length = cs.length := SX.S_len cs
    have sz : (SX.S cs).length ≤ sizeLine := by rw [lcs]; exact Nat.le_of_lt (small1000 (by omega))
    refine ⟨.ref d, rfl, .str (SX.S cs), rfl, _, rfl, sz, _, 1, rfl, rfl, d, c, t3, _, rfl, D3, by omega, by rw [lcs]; omega, by rw [lcs]; omega, fun H4 cut k4 D4 c0 c1 => ?_⟩
    refine ⟨.ref d, rfl, d, c, t3 + 1, 26, rfl, D4, by omega, by decide, by decide, fun H5 fi k5 D5 f0 f1 => ?_⟩
    have hs8 : (5 : Int) = 1 ∨ (5 : Int) = 3 ∨ (5 : Int) = 5 ∨ (5 : Int) = 7 ∨ (5 : Int) = 9 ∨ (5 : Int) = 11 ∨ (5 : Int) = 15 ∨ (5 : Int) = 17 := .inr (.inr (.inl rfl))
    refine ⟨.int m, rfl, m, rfl, by omega, by omega, fun L nL => ?_⟩
    have k07 : Kept d c H H5 := k2.trans (k3.trans (k4.trans k5))
    refine lc_range (lo := 0) (n := (m : Int).toNat) (fun k H' => Same H5 H' ∧ H' L = some (.lst (((List.range k).map (nameAt cs cut fi 5)).map V.str))) ⟨same_upd nL, upd_same⟩ (fun k H' hk hW => ?_) (fun H' hW => ?_)
    · obtain ⟨s8, e8⟩ := hW
      have sk : (0 : Int) ≤ 5 * k ∧ (5 : Int) * k ≤ 17 * 26 := by omega
      have r0 := Int.emod_nonneg (fi + 5 * k) (b := 26) (by decide)
      have r1 := Int.emod_lt_of_pos (fi + 5 * k) (b := 26) (by decide)
      refine ⟨rfl, .str (SX.S cs), rfl, .int cut, rfl, cut, rfl, _, rfl, sz, .str lettersS, rfl, .int fi, rfl, .int (0 + k), rfl, ?_⟩
      have l1 : (SX.S (cs.take cut.toNat)).length ≤ 7 := by
        rw [SX.S_len, List.length_take]
        omega
      have l2 : (SX.S (cs.drop cut.toNat)).length ≤ 7 := by
        rw [SX.S_len, List.length_drop]
        omega
      rw [show (0 : Int) + (k : Int) = (k : Int) by omega]
      refine ⟨5, k, rfl, rfl, .inl ⟨by omega, by omega⟩, fi, _, rfl, rfl, _, 26, rfl, rfl, show (0 : Int) < 26 by decide, lettersS, _, _, rfl, rfl, by decide +kernel, letters_at r0 r1, ?_⟩
      rw [SX.slice_to c0]
      refine ⟨_, _, rfl, rfl, ?_, .str (SX.S cs), rfl, .int cut, rfl, cut, rfl, _, rfl, sz, ?_⟩
      · exact Nat.le_of_lt (small1000 (by rw [show (Str.length ⟨#[97 + ((fi + 5 * k) % 26).toNat]⟩) = 1 from rfl]; omega))
      rw [SX.slice_from c0]
      refine ⟨_, _, rfl, rfl, ?_, _, e8, by rw [List.length_map, List.length_map, List.length_range]; exact small1000 (by omega), same_mut s8 nL, ?_⟩
      · refine Nat.le_of_lt (small1000 ?_)
        rw [show (Str.mk #[97 + ((fi + 5 * k) % 26).toNat]) = SX.S [97 + ((fi + 5 * k) % 26).toNat] from rfl, SX.S_cat, SX.S_len, List.length_append]
        rw [SX.S_len] at l1
        simp only [List.length_cons, List.length_nil]
        omega
      · rw [upd_same, List.range_succ, List.map_append, List.map_append]
        rw [show (Str.mk #[97 + ((fi + 5 * k) % 26).toNat]) = SX.S [97 + ((fi + 5 * k) % 26).toNat] from rfl, SX.S_cat, SX.S_cat, List.append_assoc]
        rfl
    · obtain ⟨s8, e8⟩ := hW
      refine ⟨L, _, rfl, .inl (.inl e8), by rw [List.length_map, List.length_range]; omega, fun ys p pm so np => ?_⟩
      have s9 := same_upd (o := .lst (ys.map V.str)) np
      refine q _ p ys _ ((k07.trans (Kept.of s8)).trans (Kept.of s9)) ((D5.same s8).same s9) (by omega) (kept_none (D5.same s8) (k07.trans (Kept.of s8)) np) upd_same ?_ so (pm.nodup_iff.mpr (names_nodup hs8 (by omega))) (fun x hx => ?_)
      · rw [pm.length_eq, List.length_map, List.length_range]
        omega
      · obtain ⟨i, _, rfl⟩ := List.mem_map.mp (pm.mem_iff.mp hx)
        exact nameAt_ok ro (by omega)
theorem deck_keep {d c A : Addr} {H1 H2 : Hp} {o : HO} (k : Kept d c H1 H2) (nb : ¬ Bad d c A) (e : H1 A = some o) : H2 A = some o := k _ _ e (fun z => nb (.inl z)) fun z => nb (.inr z)
theorem plainR_one {p : Int} (hF : Fld p) {n : Nat} {rows : List (List Int)} (h : RowsOk p n rows) (l1 : rows.length ≤ 1) : (plainR p n rows).length ≤ 1 := by
  obtain ⟨q, rfl, _, hF⟩ := to_q hF
  match rows, h, l1 with
  | [], _, _ =>
    rw [plainR_nil]
    exact Nat.zero_le _
  | [r], h, _ =>
    have h0 : RowsOk (q : Int) n [] := fun x hx => nomatch hx
    by_cases hm : Mk q [] (toV r)
    · have := (plainR_has hF h0 h).mpr hm
      rw [List.nil_append, plainR_nil] at this
      rw [this]
      exact Nat.zero_le _
    · have := plainR_more hF h0 h hm
      rw [List.nil_append, plainR_nil] at this
      rw [this]
      exact Nat.le_refl _
def sp_stand80 (K : PySem.W.Frag) : Sp := fun vs H Q _ => ∃ (d c : Addr) (t p : Int) (n m : Nat), vs = [.ref d, .int p, .int (n : Int), .int (m : Int)] ∧ Deck H d c t ∧ t ≤ 600000 ∧ Fld p ∧ p ≤ 1000 ∧ 1 ≤ n ∧ n ≤ 8 ∧ 2 ≤ m ∧ m ≤ 5 ∧
  ∀ H' l t' kn hs, Kept d c H H' → Deck H' d c t' → t' ≤ t + 9000 → Dp K H' (.ref l) (standD p n kn hs) → Stand5 p n kn hs → kn.length ≤ 1 → hs.length ≤ 5 → Q (.ref l) H'
theorem ok__law_stand (T : Top K mg) : Ok P w K mg base 4 "_law_stand" ["_law_deck_here", "_law_p", "_law_n", "_law_many"] (sp_stand80 K) := by
  have O__law_draw := ok__law_draw (P := P) (w := w) (base := base) T
  have O__law_names := ok__law_names (P := P) (w := w) (base := base) T
  have O__law_rows := ok__law_rows (P := P) (w := w) (base := base) T
  have O__law_row := ok__law_row (P := P) (w := w) (base := base) T
  have O__law_plain := ok__law_plain (P := P) (w := w) (base := base) T
  refine T.d__law_stand.ok sc__law_stand (fun vs H Q E h => ?_) (fun f cdv A outer s H vs Q E hr h => ?_)
  · obtain ⟨d, c, t, p, n, m, rfl, _⟩ := h
    rfl
  · obtain ⟨d, c, t, p, n, m, rfl, D0, ht, F, p1, n1, n8, m2, m5, q⟩ := h
    refine ⟨_, ((pss_cons (ps_set (i := 4) sc__law_stand.nd rfl (.inl rfl) (pe_callO O__law_rows (hr.mono (by omega)) (by rfl) (pa_cons (pv 0) (pa_cons (pv 1) (pa_cons (pv 2) (pa_cons pe_int pa_nil))))))
      (pss_cons (ps_set (i := 5) sc__law_stand.nd rfl (.inl rfl) (pe_callO O__law_plain (hr.mono (by omega)) (by rfl) (pa_cons (pv 1) (pa_cons (pv 2) (pa_cons (pe_slice sl_tupB (pe_callO O__law_rows (hr.mono (by omega)) (by rfl) (pa_cons (pv 0) (pa_cons (pv 1) (pa_cons (pv 2) (pa_cons pe_int pa_nil))))) po_none (po_some pe_int)) pa_nil)))))
      (pss_cons (ps_set (i := 6) sc__law_stand.nd rfl (.inl rfl) (pe_lst pa_nil))
      (pss_cons (ps_for PassesOwn.never (by rfl) (pi_list (pe_callO O__law_names (hr.mono (by omega)) (by rfl) (pa_cons (pv 0) (pa_cons (pv 3) pa_nil)))) (pg_name (i := 7) sc__law_stand.nd rfl (.inl rfl))
        (pss_cons (ps_set (i := 8) sc__law_stand.nd rfl (.inl rfl) (pv 5))
        (pss_cons (ps_for PassesOwn.never (by rfl) (pi_range1 (by rfl) T.b_range (pa_cons (pe_callO O__law_draw (hr.mono (by omega)) (by rfl) (pa_cons (pv 0) (pa_cons pe_int pa_nil))) pa_nil)) (pg_name (i := 9) sc__law_stand.nd rfl (.inl rfl))
          (pss_one (ps_if (PW.pt (pw_and (pt_cmpR (op_neD hr.units) (pv 4) (pe_tup pa_nil) (nomark _)) (pw_and1 (pt_cmpR op_eq (pe_callO O__law_draw (hr.mono (by omega)) (by rfl) (pa_cons (pv 0) (pa_cons pe_int pa_nil))) pe_int (nomark _)))))
            (pss_one (ps_set (i := 8) sc__law_stand.nd rfl (.inl rfl) (pe_op op_catB (pv 8) (pe_tup (pa_cons (pe_ix ix_tup (pv 4) (pe_callO O__law_draw (hr.mono (by omega)) (by rfl) (pa_cons (pv 0) (pa_cons (pe_callB call_len_seq (by rfl) T.b_len (by decide +kernel) (pa_cons (pv 4) pa_nil)) pa_nil))) (fun _ _ => rfl)) pa_nil)))))
            (pss_one (ps_set (i := 8) sc__law_stand.nd rfl (.inl rfl) (pe_op op_catB (pv 8) (pe_tup (pa_cons (pe_callO O__law_row (hr.mono (by omega)) (by rfl) (pa_cons (pv 0) (pa_cons (pv 1) (pa_cons (pv 2) pa_nil)))) pa_nil))))))))
        (pss_one (ps_expr (pe_bm PySem.F.plainAttrs_list PySem.F.slot_list_append PySem.F.type_list_append mt_append (pv 6) (pa_cons (pe_tup (pa_cons (pv 7) (pa_cons (pe_callO O__law_plain (hr.mono (by omega)) (by rfl) (pa_cons (pv 1) (pa_cons (pv 2) (pa_cons (pv 8) pa_nil)))) pa_nil))) pa_nil)))))))
      (pss_one (ps_ret (pe_tup (pa_cons (pv 1) (pa_cons (pv 2) (pa_cons (pv 5) (pa_cons (pe_callTy call_tuple_of (by rfl) T.b_tuple (by decide +kernel) (pa_cons (pv 6) pa_nil)) pa_nil)))))))))))), ?_⟩
    have p2 := F.1
    refine ⟨.ref d, rfl, .int p, rfl, .int n, rfl, d, c, t, p, n, 5, rfl, D0, by omega, by omega, by omega, by omega, by omega, by decide, by decide, fun H1 aP wP pool t1 k1 D1 ht1 e1 dP lP okP => ?_⟩
    refine ⟨.int p, rfl, .int n, rfl, .ref d, rfl, .int p, rfl, .int n, rfl, d, c, t1, p, n, 3, rfl, D1, by omega, by omega, by omega, by omega, by omega, by decide, by decide, fun H2 aO wO opn t2 k2 D2 ht2 e2 dO lO okO => ?_⟩
    refine ⟨_, rfl, aO, _, rfl, .inl (.inl e2), fun l3 H3 s3 h3 => ?_⟩
    rw [cut_upto (by decide)] at h3
    have h3 : SqT K H3 l3 (wO.take 1) := h3
    have okO' : RowsOk p n opn := fun r hr => ⟨by have := (okO r hr).1; omega, (okO r hr).2⟩
    have okP' : RowsOk p n pool := fun r hr => ⟨by have := (okP r hr).1; omega, (okP r hr).2⟩
    have ok1 : RowsOk p n (opn.take 1) := fun r hr => okO' r (List.mem_of_mem_take hr)
    have d3 : DpAll K H3 (wO.take 1) ((opn.take 1).map rowD) := by
      rw [List.map_take]
      exact dpAll_take _ (dpAll_same s3 _ _ dO)
    refine ⟨l3, _, opn.take 1, p, n, rfl, h3, d3, by rw [List.length_take]; omega, ok1, F, p1, by omega, fun H4 l4 w4 s4 e4 d4 => ?_⟩
    have pk := PFR.of_plain F ok1
    have lkn : (plainR p n (opn.take 1)).length ≤ 1 := by
      exact plainR_one F ok1 (by rw [List.length_take]; omega)
    generalize plainR p n (opn.take 1) = kn at pk lkn d4
    have s34 := s3.trans s4
    have D4 := D2.same s34
    refine ⟨Nat.zero_le _, fun L nL => ?_⟩
    generalize h5' : upd H4 L _ = H5
    obtain ⟨s5, e5⟩ := new_of h5' nL
    have bL := D4.fresh nL
    have D5 := D4.same s5
    refine ⟨.ref d, rfl, .int m, rfl, d, c, t2, m, rfl, D5, by omega, by omega, fun H6 l6 xs t6 k6 D6 ht6 nl6 e6 lx so nd nm => ?_⟩
    have b6 := D5.fresh nl6
    have neL : l6 ≠ L := fun z => by rw [z, e5] at nl6; cases nl6
    have k16 : Kept d c H1 H6 := k2.trans ((Kept.of (s34.trans s5)).trans k6)
    have k06 : Kept d c H H6 := k1.trans k16
    have k14 : Kept d c H1 H4 := k2.trans (Kept.of s34)
    have hP4 : SqT K H4 aP wP := Kept.tup D1 k14 (.inl (.inl e1))
    have dP4 : DpAll K H4 wP (pool.map rowD) := dpAll_tk (Tk.kept D1 k14) _ _ (noL_rows _) dP
    have k46 : Kept d c H4 H6 := (Kept.of s5).trans k6
    have lw4 := rows_len d4
    have lwP := rows_len dP4
    refine ⟨l6, rfl, ⟨_, .inl (.inl e6)⟩, for_it (walk_list (K := K) (a := l6) (xs := xs.map V.str)) (fun i σ H' => Kept d c H4 H' ∧ ∃ (t' : Int) (ws : List V) (hs : List (Str × List (List Int))) (y7 y8 y9 : Option V), Deck H' d c t' ∧ t' ≤ t6 + 100 * i ∧ H' l6 = some (.lst (xs.map V.str)) ∧ H' L = some (.lst ws) ∧ DpAll K H' ws (hs.map handD) ∧ hs.map Prod.fst = xs.take i ∧ (∀ h ∈ hs, PFR p n h.2 ∧ ∀ r ∈ kn, InR p h.2 r) ∧ σ = [some (.ref d), some (.int p), some (.int (n : Int)), some (.int (m : Int)), some (.ref aP), some (.ref l4), some (.ref L), y7, y8, y9])
      ⟨k46, t6, [], [], none, none, none, D6, by omega, e6, deck_keep k6 bL e5, .nil, rfl, fun h hh => (nomatch hh), rfl⟩ (fun i σ H' _ hW => by obtain ⟨_, _, _, _, _, _, _, _, _, e, _⟩ := hW; exact .inl (.inl e)) (fun i v σ H7 H8 hi hW hY => ?_) (fun σ H7 hW => ?_)⟩
    · obtain ⟨rfl, hv⟩ := hY
      obtain ⟨k7, t7, ws, hs, y7, y8, y9, D7, ht7, e67, eL7, dhs, fst, rms, rfl⟩ := hW
      rw [List.getElem?_map] at hv
      obtain ⟨x, gx, rfl⟩ := Option.map_eq_some_iff.mp hv
      rw [List.length_map] at hi
      have hO7 := Kept.tup (K := K) D4 k7 (.inl (.inl e4))
      have d47 := dpAll_tk (Tk.kept D4 k7) _ _ (noL_rows _) d4
      have hP7 := Kept.tup D4 k7 hP4
      have dP7 := dpAll_tk (Tk.kept D4 k7) _ _ (noL_rows _) dP4
      refine ⟨.ref l4, rfl, .ref d, rfl, d, c, t7, 4, rfl, D7, by omega, by decide, by decide, fun H9 z k9 D9 z0 z1 => ⟨z, rfl, by omega, by omega, ?_⟩⟩
      refine for_range (lo := 0) (n := z.toNat) (fun k σ H' => Kept d c H8 H' ∧ ∃ (t' : Int) (l : Addr) (rs : List (List Int)) (y9 : Option V), Deck H' d c t' ∧ t' ≤ t7 + 1 + 20 * k ∧ RowsAt K H' l (kn ++ rs) ∧ RowsOk p n rs ∧ rs.length = k ∧ σ = [some (.ref d), some (.int p), some (.int (n : Int)), some (.int (m : Int)), some (.ref aP), some (.ref l4), some (.ref L), some (.str x), some (.ref l), y9]) ⟨k9, t7 + 1, l4, [], y9, D9, by omega, ⟨w4, Kept.tup D7 k9 hO7, by rw [List.append_nil]; exact dpAll_tk (Tk.kept D7 k9) _ _ (noL_rows _) d47⟩, fun r hr => (nomatch hr), rfl, rfl⟩ (fun k σ HA hk hW => ?_) (fun σ HA hW => ?_)
      · obtain ⟨kA, tA, l, rs, yA, DA, htA, hR, okr, lrs, rfl⟩ := hW
        have lrsA := rows_len hR.choose_spec.2
        refine ⟨.ref aP, rfl, ?_⟩
        refine ⟨Nat.zero_le _, fun e0 ne0 => ?_⟩
        generalize hB : upd HA e0 _ = HB
        obtain ⟨sB, eB⟩ := new_of hB ne0
        have DB := DA.same sB
        have kB : Kept d c H8 HB := kA.trans (Kept.of sB)
        have hPB := Kept.tup D7 kB hP7
        have dPB := dpAll_tk (Tk.kept D7 kB) _ _ (noL_rows _) dP7
        refine ⟨.tuple (pool.map rowD), .tuple [], .tup hPB dPB, .tup (.inl (.inl eB)) .nil, shaped_trows _, shaped_trows [], _, rfl, ?_⟩
        have hRB : RowsAt K HB l (kn ++ rs) := RowsAt.same sB hR
        have hbp : (!PyData.eqv (.tuple (pool.map rowD)) (.tuple [])) = true → pool ≠ [] := fun h z => by
          subst z
          revert h
          decide +kernel
        generalize (!PyData.eqv (.tuple (pool.map rowD)) (.tuple [])) = b0 at hbp ⊢
        have hk4 : k < 4 := by omega
        cases b0 with
        | true =>
          have hp0 := hbp rfl
          refine ⟨.ref d, rfl, d, c, tA, 2, rfl, DB, by omega, by decide, by decide, fun HC z' kC DC y0 y1 => ?_⟩
          refine ⟨rfl, _, rfl, ite2 (fun e => ?_) (fun e => ?_)⟩
          · refine ⟨.ref l, rfl, .ref aP, rfl, .ref d, rfl, ?_⟩
            have hPC := Kept.tup DB kC hPB
            have dPC := dpAll_tk (Tk.kept DB kC) _ _ (noL_rows _) dPB
            have lpp : 1 ≤ pool.length := Nat.pos_of_ne_zero fun z => hp0 (List.eq_nil_of_length_eq_zero z)
            refine ⟨.ref aP, rfl, aP, wP, rfl, .inr hPC, d, c, tA + 1, (wP.length : Int), rfl, DC, by omega, by omega, by omega, fun HD y kD DD y0 y1 => ?_⟩
            have hPD := Kept.tup DC kD hPC
            have dPD := dpAll_tk (Tk.kept DC kD) _ _ (noL_rows _) dPC
            obtain ⟨v, hv⟩ : ∃ v, wP[y.toNat]? = some v := ⟨_, List.getElem?_eq_getElem (by omega)⟩
            obtain ⟨b, r, rfl, gr, mr, hb⟩ := dpAll_row dPD hv
            have okr1 := okP' r mr
            refine ⟨aP, wP, y, .ref b, rfl, rfl, hPD, (by have := atI_nat hv; rwa [Int.toNat_of_nonneg y0] at this), ?_⟩
            refine ⟨Nat.le_of_lt (small1000 (show 1 ≤ 1000 by decide)), fun s9 n9 => ?_⟩
            generalize h9 : upd HD s9 _ = HE
            obtain ⟨sE, eE⟩ := new_of h9 n9
            have kBD : Kept d c HB HD := kC.trans kD
            have DE := DD.same sE
            have k8E : Kept d c H8 HE := (kB.trans kBD).trans (Kept.of sE)
            obtain ⟨wl, hl, dl⟩ := hRB
            have lwl := rows_len dl
            have hlE := Same.tup sE (Kept.tup DB kBD hl)
            have dlE := dpAll_same sE _ _ (dpAll_tk (Tk.kept DB kBD) _ _ (noL_rows _) dl)
            refine ⟨l, s9, wl, [.ref b], rfl, rfl, hlE, .inl (.inl eE), Nat.le_of_lt (small1000 (by rw [lwl, List.length_append]; show _ + 1 ≤ 1000; omega)), fun u HF sF hF => ?_⟩
            have okr2 : RowsOk p n [r] := fun x hx => by
              rw [List.mem_singleton.mp hx]
              exact okr1
            have hF : SqT K HF u (wl ++ [.ref b]) := hF
            exact ⟨k8E.trans (Kept.of sF), _, u, rs ++ [r], _, DE.same sF, by push_cast; omega, ⟨wl ++ [.ref b], hF, by
              rw [← List.append_assoc, List.map_append]
              exact dpAll_append (dpAll_same sF _ _ dlE) (.cons (row_dp (Same.tup (sE.trans sF) hb)) .nil)⟩, rowsOk_app okr okr2, by rw [List.length_append, lrs]; rfl, rfl⟩
          · refine ⟨.ref l, rfl, ?_⟩
            refine ⟨.ref d, rfl, .int p, rfl, .int n, rfl, d, c, tA + 1, p, n, rfl, DC, by omega, by omega, by omega, by omega, by omega, fun HD b r t9 kD DD ht9 _ eb lr okr1 => ?_⟩
            refine ⟨Nat.le_of_lt (small1000 (show 1 ≤ 1000 by decide)), fun s9 n9 => ?_⟩
            generalize h9 : upd HD s9 _ = HE
            obtain ⟨sE, eE⟩ := new_of h9 n9
            have kBD : Kept d c HB HD := kC.trans kD
            have DE := DD.same sE
            have k8E : Kept d c H8 HE := (kB.trans kBD).trans (Kept.of sE)
            obtain ⟨wl, hl, dl⟩ := hRB
            have lwl := rows_len dl
            have hlE := Same.tup sE (Kept.tup DB kBD hl)
            have dlE := dpAll_same sE _ _ (dpAll_tk (Tk.kept DB kBD) _ _ (noL_rows _) dl)
            have okr2 : RowsOk p n [r] := fun x hx => by
              rw [List.mem_singleton.mp hx]
              exact ⟨by omega, okr1⟩
            refine ⟨l, s9, wl, [.ref b], rfl, rfl, hlE, .inl (.inl eE), Nat.le_of_lt (small1000 (by rw [lwl, List.length_append]; show _ + 1 ≤ 1000; omega)), fun u HF sF hF => ?_⟩
            have hF : SqT K HF u (wl ++ [.ref b]) := hF
            exact ⟨k8E.trans (Kept.of sF), _, u, rs ++ [r], _, DE.same sF, by push_cast; omega, ⟨wl ++ [.ref b], hF, by
              rw [← List.append_assoc, List.map_append]
              exact dpAll_append (dpAll_same sF _ _ dlE) (.cons (row_dp (Same.tup (sE.trans sF) (.inl (.inl eb)))) .nil)⟩, rowsOk_app okr okr2, by rw [List.length_append, lrs]; rfl, rfl⟩
        | false =>
          refine ⟨.ref l, rfl, ?_⟩
          refine ⟨.ref d, rfl, .int p, rfl, .int n, rfl, d, c, tA, p, n, rfl, DB, by omega, by omega, by omega, by omega, by omega, fun HD b r t9 kD DD ht9 _ eb lr okr1 => ?_⟩
          refine ⟨Nat.le_of_lt (small1000 (show 1 ≤ 1000 by decide)), fun s9 n9 => ?_⟩
          generalize h9 : upd HD s9 _ = HE
          obtain ⟨sE, eE⟩ := new_of h9 n9
          have kBD : Kept d c HB HD := kD
          have DE := DD.same sE
          have k8E : Kept d c H8 HE := (kB.trans kBD).trans (Kept.of sE)
          obtain ⟨wl, hl, dl⟩ := hRB
          have lwl := rows_len dl
          have hlE := Same.tup sE (Kept.tup DB kBD hl)
          have dlE := dpAll_same sE _ _ (dpAll_tk (Tk.kept DB kBD) _ _ (noL_rows _) dl)
          have okr2 : RowsOk p n [r] := fun x hx => by
            rw [List.mem_singleton.mp hx]
            exact ⟨by omega, okr1⟩
          refine ⟨l, s9, wl, [.ref b], rfl, rfl, hlE, .inl (.inl eE), Nat.le_of_lt (small1000 (by rw [lwl, List.length_append]; show _ + 1 ≤ 1000; omega)), fun u HF sF hF => ?_⟩
          have hF : SqT K HF u (wl ++ [.ref b]) := hF
          exact ⟨k8E.trans (Kept.of sF), _, u, rs ++ [r], _, DE.same sF, by push_cast; omega, ⟨wl ++ [.ref b], hF, by
            rw [← List.append_assoc, List.map_append]
            exact dpAll_append (dpAll_same sF _ _ dlE) (.cons (row_dp (Same.tup (sE.trans sF) (.inl (.inl eb)))) .nil)⟩, rowsOk_app okr okr2, by rw [List.length_append, lrs]; rfl, rfl⟩
      · obtain ⟨kA, tA, l, rs, yA, DA, htA, hR, okr, lrs, rfl⟩ := hW
        obtain ⟨wl, hl, dl⟩ := hR
        have lwl := rows_len dl
        have okA := rowsOk_app pk.rows okr
        have lenA : (kn ++ rs).length ≤ 4 := by rw [List.length_append]; omega
        refine ⟨.ref L, rfl, .inl ⟨rfl, _, .inl (.inl (deck_keep kA bL eL7))⟩, .str x, rfl, .int p, rfl, .int n, rfl, .ref l, rfl, ?_⟩
        refine ⟨l, wl, kn ++ rs, p, n, rfl, hl, dl, by omega, okA, F, p1, by omega, fun G4 lj wj sj ej dj => ?_⟩
        refine ⟨Nat.le_of_lt (small1000 (show 2 ≤ 1000 by decide)), fun o15 n15 => ?_⟩
        generalize h15 : upd G4 o15 _ = G5
        obtain ⟨sk, ek⟩ := new_of h15 n15
        have k85 : Kept d c H8 G5 := kA.trans (Kept.of (sj.trans sk))
        have eL5 := deck_keep k85 bL eL7
        have e65 := deck_keep k85 b6 e67
        have tk : Tk G5 (upd G5 L (.lst (ws ++ [.ref o15]))) := (Tk.refl _).mut eL5
        have n15L : o15 ≠ L := fun z => by
          subst z
          rw [ek] at eL5
          cases eL5
        have lhs : hs.length = i := by
          have := congrArg List.length fst
          rw [List.length_map, List.length_take] at this
          omega
        have lws := dpAll_len dhs
        rw [List.length_map] at lws
        refine ⟨L, _, _, rfl, rfl, eL5, small1000 (by omega), (k7.trans k85).mut nL, tA, ws ++ [.ref o15], hs ++ [(x, plainR p n (kn ++ rs))], _, _, _, (DA.same (sj.trans sk)).mut bL, by push_cast; omega, by rw [upd_ne neL]; exact e65, upd_same, ?_, ?_, ?_, rfl⟩
        · rw [List.map_append]
          refine dpAll_append (dpAll_tk ((Tk.kept D7 k85).trans tk) _ _ (noL_hands hs) dhs) (.cons (.tup (xs := [.str x, .ref lj]) (.inl (.inl ?_)) (.cons (.str x) (.cons (.tup (tk _ _ _ (Same.tup sk (.inl (.inl ej)))) (dpAll_tk ((Tk.of sk).trans tk) _ _ (noL_rows _) dj)) .nil))) .nil)
          rw [upd_ne n15L]
          exact ek
        · rw [List.map_append, fst, List.take_add_one, gx]
          rfl
        · intro h hh
          rcases List.mem_append.mp hh with hh | hh
          · exact rms h hh
          · rw [List.mem_singleton.mp hh]
            exact ⟨PFR.of_plain F okA, fun r hr => (InR.plain F okA).mpr (InR.mem (List.mem_append_left _ hr))⟩
    · obtain ⟨k7, t7, ws, hs, y7, y8, y9, D7, ht7, e67, eL7, dhs, fst, rms, rfl⟩ := hW
      refine ⟨.int p, rfl, .int n, rfl, .ref l4, rfl, .ref L, rfl, L, _, rfl, .inl ⟨.inl (.inl eL7), fun l nl => ?_⟩⟩
      generalize h15 : upd _ l _ = G1
      obtain ⟨sk, ek⟩ := new_of h15 nl
      refine ⟨Nat.le_of_lt (small1000 (show 4 ≤ 1000 by decide)), fun o16 n16 => ?_⟩
      generalize h16 : upd G1 o16 _ = G2
      obtain ⟨sl, el⟩ := new_of h16 n16
      have skl := sk.trans sl
      rw [List.length_map] at ht7 fst
      rw [List.take_of_length_le (Nat.le_refl _)] at fst
      have lhs : hs.length = xs.length := by
        have := congrArg List.length fst
        rw [List.length_map] at this
        exact this
      have lw := dpAll_len dhs
      rw [List.length_map] at lw
      have hO7 : SqT K G2 l4 w4 := Same.tup skl (Kept.tup D4 k7 (.inl (.inl e4)))
      have d47 := dpAll_same skl _ _ (dpAll_tk (Tk.kept D4 k7) _ _ (noL_rows _) d4)
      refine q G2 o16 t7 kn hs ((k1.trans k14).trans (k7.trans (Kept.of skl))) (D7.same skl) (by omega) (.tup (.inl (.inl el)) (.cons (.int p) (.cons (.int n) (.cons (.tup hO7 d47) (.cons (.tup (Same.tup sl (.inl (.inl ek))) (dpAll_same skl _ _ dhs)) .nil))))) ⟨F, p1, n1, n8, pk, fun h hh => (rms h hh).1, fun h hh => (rms h hh).2, by omega, by omega, by rw [fst]; exact so, by rw [fst]; exact nd, by rw [fst]; exact nm⟩ lkn (by omega)
def callD (c : Str × List Int) : PyData := .tuple [.str c.1, rowD c.2]
theorem noL_call (c : Str × List Int) : noL (callD c) = true := by
  have h := noL_rows [c.2]
  unfold callD
  simp only [List.map_cons, List.map_nil, noL, noLAll, Bool.and_true, Bool.true_and] at h ⊢
  exact h
theorem noL_calls (cs : List (Str × List Int)) : noLAll (cs.map callD) = true := noLAll_of fun d hd => by
  obtain ⟨c, _, rfl⟩ := List.mem_map.mp hd
  exact noL_call c
/-- calls that the hands of a stand may say -/
def CallsIn (p : Int) (n : Nat) (hs : List (Str × List (List Int))) (cs : List (Str × List Int)) : Prop := ∀ c ∈ cs, RowsOk p n [c.2] ∧ ∃ h ∈ hs, h.1 = c.1 ∧ InR p h.2 c.2
theorem dp_call80 {K : PySem.W.Frag} {H : Hp} {v : V} {c : Str × List Int} (h : Dp K H v (callD c)) : ∃ b r : Addr, v = .ref b ∧ SqT K H b [.str c.1, .ref r] ∧ SqT K H r (c.2.map V.int) := by
  unfold callD at h
  cases h with
  | tup h1 h2 =>
    cases h2 with
    | cons h3 h4 =>
      cases h4 with
      | cons h5 h6 =>
        cases h6
        cases h3
        obtain ⟨r, rfl, hr⟩ := dp_row h5
        exact ⟨_, r, rfl, h1, hr⟩
def sp_calls80 (K : PySem.W.Frag) : Sp := fun vs H Q _ => ∃ (d c s : Addr) (t p : Int) (n : Nat) (kn : List (List Int)) (hs : List (Str × List (List Int))), vs = [.ref d, .ref s] ∧ Deck H d c t ∧ t ≤ 900000 ∧ Dp K H (.ref s) (standD p n kn hs) ∧ Stand5 p n kn hs ∧
  ∀ H' l t' ws (cs : List (Str × List Int)), Kept d c H H' → Deck H' d c t' → t' ≤ t + 200 → SqT K H' l ws → DpAll K H' ws (cs.map callD) → CallsIn p n hs cs → cs.length ≤ 6 → Q (.ref l) H'
theorem ok__law_calls (T : Top K mg) : Ok P w K mg base 3 "_law_calls" ["_law_deck_here", "_law_stand_here"] (sp_calls80 K) := by
  have O__law_draw := ok__law_draw (P := P) (w := w) (base := base) T
  have O__law_mixed := ok_mixed2 (P := P) (w := w) (base := base) T
  refine T.d__law_calls.ok sc__law_calls (fun vs H Q E h => ?_) (fun f cdv A outer s H vs Q E hr h => ?_)
  · obtain ⟨d, c, a, t, p, n, kn, hs, rfl, _⟩ := h
    rfl
  · obtain ⟨d, c, a, t, p, n, kn, hs, rfl, D0, ht, dp, S, q⟩ := h
    obtain ⟨_, k, g, wg, ea, ha, hk, hg, dg⟩ := dp_stand dp
    cases ea
    have lg := dpAll_len dg
    rw [List.length_map] at lg
    have F := S.fld
    have p1 := S.p1
    have n1 := S.n1
    have n8 := S.n8
    have few := S.few
    have many := S.many
    have p2 := F.1
    refine ⟨_, ((pss_cons (ps_asg (pv 1) (pg_tup (by rfl) (pgs_cons (pg_name (i := 2) sc__law_calls.nd rfl (.inl rfl)) (pgs_cons (pg_name (i := 3) sc__law_calls.nd rfl (.inl rfl)) (pgs_cons (pg_name (i := 4) sc__law_calls.nd rfl (.inl rfl)) (pgs_cons (pg_name (i := 5) sc__law_calls.nd rfl (.inl rfl)) pgs_nil))))))
      (pss_cons (ps_set (i := 6) sc__law_calls.nd rfl (.inl rfl) (pe_lst pa_nil))
      (pss_cons (ps_for PassesOwn.never (by rfl) (pi_range1 (by rfl) T.b_range (pa_cons (pe_callO O__law_draw (hr.mono (by omega)) (by rfl) (pa_cons (pv 0) (pa_cons pe_int pa_nil))) pa_nil)) (pg_name (i := 7) sc__law_calls.nd rfl (.inl rfl))
        (pss_cons (ps_asg (pe_ix ix_tup (pv 5) (pe_callO O__law_draw (hr.mono (by omega)) (by rfl) (pa_cons (pv 0) (pa_cons (pe_callB call_len_seq (by rfl) T.b_len (by decide +kernel) (pa_cons (pv 5) pa_nil)) pa_nil))) (fun _ _ => rfl)) (pg_tup (by rfl) (pgs_cons (pg_name (i := 8) sc__law_calls.nd rfl (.inl rfl)) (pgs_cons (pg_name (i := 9) sc__law_calls.nd rfl (.inl rfl)) pgs_nil))))
        (pss_one (ps_expr (pe_bm PySem.F.plainAttrs_list PySem.F.slot_list_append PySem.F.type_list_append mt_append (pv 6) (pa_cons (pe_tup (pa_cons (pv 8) (pa_cons (pe_callO O__law_mixed (hr.mono (by omega)) (by rfl) (pa_cons (pv 0) (pa_cons (pv 2) (pa_cons (pv 3) (pa_cons (pv 9) pa_nil))))) pa_nil))) pa_nil))))))
      (pss_one (ps_ret (pe_callTy call_tuple_of (by rfl) T.b_tuple (by decide +kernel) (pa_cons (pv 6) pa_nil)))))))), ?_⟩
    refine ⟨.ref a, rfl, a, _, rfl, ha, rfl, _, _, rfl, _, _, rfl, _, _, rfl, _, _, rfl, rfl, ?_⟩
    refine ⟨Nat.zero_le _, fun o no => ?_⟩
    have bo := D0.fresh no
    generalize h1 : upd H o _ = H1
    obtain ⟨s1, e1⟩ := new_of h1 no
    have D1 := D0.same s1
    refine ⟨.ref d, rfl, d, c, t, 7, rfl, D1, by omega, by decide, by decide, fun H2 z k2 D2 z0 z1 => ⟨z, rfl, by omega, by omega, ?_⟩⟩
    refine for_range (lo := 0) (n := z.toNat) (fun i σ H' => Kept d c H H' ∧ ∃ (t' : Int) (ws : List V) (cs : List (Str × List Int)) (y7 y8 y9 : Option V), Deck H' d c t' ∧ t' ≤ t + 1 + 30 * i ∧ H' o = some (.lst ws) ∧ DpAll K H' ws (cs.map callD) ∧ cs.length = i ∧ CallsIn p n hs cs ∧ σ = [some (.ref d), some (.ref a), some (.int p), some (.int (n : Int)), some (.ref k), some (.ref g), some (.ref o), y7, y8, y9]) ⟨(Kept.of s1).trans k2, t + 1, [], [], none, none, none, D2, by omega, deck_keep k2 bo e1, .nil, rfl, fun x hx => (nomatch hx), rfl⟩ (fun i σ H3 hi hW => ?_) (fun σ H3 hW => ?_)
    · obtain ⟨k3, t3, ws, cs, y7, y8, y9, D3, ht3, eo3, dcs, lcs, cin, rfl⟩ := hW
      have hg3 := Kept.tup D0 k3 hg
      have dg3 := dpAll_tk (Tk.kept D0 k3) _ _ (noL_hands _) dg
      refine ⟨.ref g, rfl, .ref d, rfl, .ref g, rfl, g, wg, rfl, .inr hg3, d, c, t3, (wg.length : Int), rfl, D3, by omega, by omega, by omega, fun H4 y k4 D4 y0 y1 => ?_⟩
      obtain ⟨v, hv⟩ : ∃ v, wg[y.toNat]? = some v := ⟨_, List.getElem?_eq_getElem (by omega)⟩
      have k34 := k4
      have hg4 := Kept.tup D3 k4 hg3
      obtain ⟨b, r, h, rfl, gh, mh, hb, hr4⟩ := dpAll_hand (dpAll_tk (Tk.kept D3 k4) _ _ (noL_hands _) dg3) hv
      refine ⟨g, wg, y, .ref b, rfl, rfl, hg4, (by have := atI_nat hv; rwa [Int.toNat_of_nonneg y0] at this), b, _, rfl, hb, rfl, _, _, rfl, _, _, rfl, rfl, ?_⟩
      have ph := S.ph h mh
      have lh := PFR.len F ph
      obtain ⟨wr, hr1, dr1⟩ := hr4
      refine ⟨.ref o, rfl, .inl ⟨rfl, _, .inl (.inl (deck_keep k4 bo eo3))⟩, .str h.1, rfl, .ref d, rfl, .int p, rfl, .int n, rfl, .ref r, rfl, d, c, r, t3 + 1, p, n, wr, h.2, rfl, D4, by omega, by omega, by omega, by omega, by omega, .inr hr1, dr1, by omega, fun x hx => by rw [(ph.rows x hx).1], fun H5 m row t5 k5 D5 ht5 hm lrow okrow inrow => ?_⟩
      refine ⟨Nat.le_of_lt (small1000 (show 2 ≤ 1000 by decide)), fun o15 n15 => ?_⟩
      generalize h15 : upd H5 o15 _ = H6
      obtain ⟨sk, ek⟩ := new_of h15 n15
      have k36 := (k4.trans k5).trans (Kept.of sk)
      have eo6 := deck_keep k36 bo eo3
      have tk : Tk H6 (upd H6 o (.lst (ws ++ [.ref o15]))) := (Tk.refl _).mut eo6
      have n15o : o15 ≠ o := fun z => by
        subst z
        rw [ek] at eo6
        cases eo6
      have lws := dpAll_len dcs
      rw [List.length_map] at lws
      refine ⟨o, _, _, rfl, rfl, eo6, small1000 (by omega), (k3.trans k36).mut no, t5, ws ++ [.ref o15], cs ++ [(h.1, row)], _, _, _, (D5.same sk).mut bo, by push_cast; omega, upd_same, ?_, by rw [List.length_append, lcs]; rfl, ?_, rfl⟩
      · rw [List.map_append]
        refine dpAll_append (dpAll_tk ((Tk.kept D3 k36).trans tk) _ _ (noL_calls cs) dcs) (.cons (.tup (xs := [.str h.1, .ref m]) (.inl (.inl ?_)) (.cons (.str h.1) (.cons (row_dp (tk _ _ _ (Same.tup sk hm))) .nil))) .nil)
        rw [upd_ne n15o]
        exact ek
      · intro c1 hc
        rcases List.mem_append.mp hc with hc | hc
        · exact cin c1 hc
        · rw [List.mem_singleton.mp hc]
          exact ⟨fun x hx => by
            rw [List.mem_singleton.mp hx]
            exact ⟨by show row.length = n; omega, okrow⟩, h, mh, rfl, inrow⟩
    · obtain ⟨k3, t3, ws, cs, y7, y8, y9, D3, ht3, eo3, dcs, lcs, cin, rfl⟩ := hW
      refine ⟨.ref o, rfl, o, _, rfl, .inl ⟨.inl (.inl eo3), fun l nl => ?_⟩⟩
      generalize h15 : upd _ l _ = G1
      obtain ⟨sk, ek⟩ := new_of h15 nl
      exact q G1 l t3 ws cs (k3.trans (Kept.of sk)) (D3.same sk) (by omega) (.inl (.inl ek)) (dpAll_same sk _ _ dcs) cin (by omega)
def sp_callers80 (K : PySem.W.Frag) : Sp := fun vs H Q _ => ∃ (s b : Addr) (p : Int) (n : Nat) (kn : List (List Int)) (hs : List (Str × List (List Int))) (row : List Int), vs = [.ref s, .ref b] ∧ Dp K H (.ref s) (standD p n kn hs) ∧ Stand5 p n kn hs ∧ SqT K H b (row.map V.int) ∧ RowsOk p n [row] ∧
  ∀ H' l (xs : List Str), Same H H' → H l = none → H' l = some (.lst (xs.map V.str)) → (∀ x ∈ xs, ∃ h ∈ hs, h.1 = x ∧ InR p h.2 row) → (∀ h ∈ hs, InR p h.2 row → h.1 ∈ xs) → xs.length ≤ hs.length → Q (.ref l) H'
theorem ok__law_callers (T : Top K mg) : Ok P w K mg base 4 "_law_callers" ["_law_stand_here", "_law_row_here"] (sp_callers80 K) := by
  have O__law_has := ok__law_has (P := P) (w := w) (base := base) T
  refine T.d__law_callers.ok sc__law_callers (fun vs H Q E h => ?_) (fun f cdv A outer s H vs Q E hr h => ?_)
  · obtain ⟨a, b, p, n, kn, hs, row, rfl, _⟩ := h
    rfl
  · obtain ⟨a, b, p, n, kn, hs, row, rfl, dp, S, hb, okr, q⟩ := h
    obtain ⟨_, k, g, wg, ea, ha, hk, hg, dg⟩ := dp_stand dp
    cases ea
    have lg := dpAll_len dg
    rw [List.length_map] at lg
    have F := S.fld
    have p1 := S.p1
    have n8 := S.n8
    have many := S.many
    refine ⟨_, ((pss_one (ps_ret (pe_lc (own := [("_law_name", 2), ("_law_room", 3)]) (g := gTup K 2 (gCons (gName 2) (gCons (gName 3) gNil))) (by rfl) sc__law_callers.nd (pi_tup (pe_ix ix_tup (pv 0) pe_int (fun _ _ => rfl))) (blkOk_by (own := [("_law_name", 2), ("_law_room", 3)]) (N := N__law_callers) (sc := defScope s__law_callers) (by decide +kernel)) (fun _ _ _ _ _ => (pg_tup (by rfl) (pgs_cons (pg_name (i := 2) sc__law_callers.nd rfl (.inl rfl)) (pgs_cons (pg_name (i := 3) sc__law_callers.nd rfl (.inl rfl)) pgs_nil)))) (fun _ _ _ _ _ => (pts_one (pt_val (pe_callO O__law_has (hr.mono (by omega)) (by rfl) (pa_cons (pe_ix (show IxR _ (rIxT K) from ix_tup) (pv 0) pe_int (fun _ _ => rfl)) (pa_cons (pe_ix (show IxR _ (rIxT K) from ix_tup) (pv 0) pe_int (fun _ _ => rfl)) (pa_cons (pv 3) (pa_cons (pv 1) pa_nil)))))))) (fun _ _ _ _ _ => (pv 2)))))), ?_⟩
    refine ⟨.ref a, rfl, ?_⟩
    refine ⟨a, _, 3, .ref g, rfl, rfl, ha, rfl, ?_⟩
    refine ⟨g, rfl, ⟨_, hg⟩, fun D nD => lc_it (walk_tup (K := K) (a := g) (xs := wg)) (fun i H' => Same H H' ∧ ∃ xs : List Str, H' D = some (.lst (xs.map V.str)) ∧ (∀ x ∈ xs, ∃ h ∈ hs, h.1 = x ∧ InR p h.2 row) ∧ (∀ h ∈ hs.take i, InR p h.2 row → h.1 ∈ xs) ∧ xs.length ≤ i) ⟨same_upd nD, [], upd_same, fun x hx => (nomatch hx), fun x hx => by simp at hx, Nat.le_refl _⟩ (fun i H' _ hP => Same.tup hP.1 hg) (fun i y H6 H7 hi hP hY => ?_) (fun H6 hP => ?_)⟩
    · obtain ⟨rfl, hy⟩ := hY
      obtain ⟨s6, xs, eD, in1, in2, lx⟩ := hP
      obtain ⟨o, r, z, rfl, gz, mz, ho, hr6⟩ := dpAll_hand (dpAll_same s6 _ _ dg) hy
      obtain ⟨wr, hr1, dr1⟩ := hr6
      refine ⟨o, _, rfl, ho, rfl, _, _, rfl, _, _, rfl, rfl, ?_⟩
      have ha6 := Same.tup s6 ha
      have hb6 := Same.tup s6 hb
      have phz := S.ph z mz
      have lz := PFR.len F phz
      refine ⟨rfl, .ref a, rfl, a, _, 0, .int p, rfl, rfl, ha6, rfl, .ref a, rfl, a, _, 1, .int n, rfl, rfl, ha6, rfl, .ref r, rfl, .ref b, rfl, r, b, wr, z.2, row, p, n, rfl, hr1, dr1, hb6, by omega, phz.rows, okr, F, p1, by omega, fun H8 s8 => ?_⟩
      refine ⟨_, rfl, ?_⟩
      have hin := hasR_in F phz.1 okr
      have st : ∀ h ∈ hs.take (i + 1), h ∈ hs.take i ∨ h = z := fun h hh => by
        rw [List.take_add_one, gz] at hh
        simpa using hh
      have eD8 := s8 _ _ eD
      refine ite2 (fun e => ?_) (fun e => ?_)
      · have iz := hin.mp e
        refine ⟨.str z.1, rfl, _, eD8, small1000 (by rw [List.length_map]; omega), same_mut (s6.trans s8) nD, xs ++ [z.1], by rw [upd_same, List.map_append]; rfl, fun x hx => ?_, fun h hh ih => ?_, by rw [List.length_append]; exact Nat.succ_le_succ lx⟩
        · rcases List.mem_append.mp hx with hx | hx
          · exact in1 x hx
          · rw [List.mem_singleton.mp hx]
            exact ⟨z, mz, rfl, iz⟩
        · rcases st h hh with hh | rfl
          · exact List.mem_append_left _ (in2 h hh ih)
          · simp
      · refine ⟨s6.trans s8, xs, eD8, in1, fun h hh ih => ?_, by omega⟩
        rcases st h hh with hh | rfl
        · exact in2 h hh ih
        · exact absurd (hin.mpr ih) e
    · obtain ⟨s6, xs, eD, in1, in2, lx⟩ := hP
      rw [List.take_of_length_le (by omega)] at in2
      exact q H6 D xs s6 nD eD in1 in2 (by omega)
theorem dpAll_perm80 {K : PySem.W.Frag} {H : Hp} {ys xs : List V} (hp : ys.Perm xs) : ∀ {rs : List (Str × List Int)}, DpAll K H xs (rs.map callD) → ∃ rs' : List (Str × List Int), rs'.Perm rs ∧ DpAll K H ys (rs'.map callD) := by
  induction hp with
  | nil => exact fun {rs} h => ⟨rs, List.Perm.refl _, h⟩
  | cons x _ ih =>
    intro rs h
    cases rs with
    | nil => cases h
    | cons r rs =>
      cases h with
      | cons h1 h2 =>
        obtain ⟨rs', p, d⟩ := ih h2
        exact ⟨r :: rs', p.cons r, .cons h1 d⟩
  | swap x y l =>
    intro rs h
    match rs, h with
    | [], h => cases h
    | [r], h =>
      cases h with
      | cons h1 h2 => cases h2
    | r1 :: r2 :: rs, h =>
      cases h with
      | cons h1 h2 =>
        cases h2 with
        | cons h2 h3 => exact ⟨r2 :: r1 :: rs, List.Perm.swap _ _ _, .cons h2 (.cons h1 h3)⟩
  | trans _ _ ih1 ih2 =>
    intro rs h
    obtain ⟨r1, p1, d1⟩ := ih2 h
    obtain ⟨r2, p2, d2⟩ := ih1 d1
    exact ⟨r2, p2.trans p1, d2⟩
def rowsC (cs : List (Str × List Int)) : List (List Int) := cs.map Prod.snd
def sp_other80 (K : PySem.W.Frag) : Sp := fun vs H Q _ => ∃ (d c s a : Addr) (t p : Int) (n : Nat) (kn : List (List Int)) (hs : List (Str × List (List Int))) (ws : List V) (cs : List (Str × List Int)), vs = [.ref d, .ref s, .ref a] ∧ Deck H d c t ∧ t ≤ 900000 ∧ Dp K H (.ref s) (standD p n kn hs) ∧ Stand5 p n kn hs ∧ SqT K H a ws ∧ DpAll K H ws (cs.map callD) ∧ CallsIn p n hs cs ∧ cs.length ≤ 6 ∧
  ∀ H' l t' ws' (os : List (Str × List Int)), Kept d c H H' → Deck H' d c t' → t' ≤ t + 100 → SqT K H' l ws' → DpAll K H' ws' (os.map callD) → CallsIn p n hs os → os.length ≤ 7 → (∀ c ∈ os, InR p (rowsC cs) c.2) → (∀ c ∈ cs, InR p (rowsC os) c.2) → Q (.ref l) H'
theorem ok__law_otherwise (T : Top K mg) : Ok P w K mg base 5 "_law_otherwise" ["_law_deck_here", "_law_stand_here", "_law_calls_here"] (sp_other80 K) := by
  have O__law_draw := ok__law_draw (P := P) (w := w) (base := base) T
  have O__law_turned := ok__law_turned (P := P) (w := w) (base := base) T
  have O__law_callers := ok__law_callers (P := P) (w := w) (base := base) T
  have O__law_plus := ok__law_plus (P := P) (w := w) (base := base) T
  refine T.d__law_otherwise.ok sc__law_otherwise (fun vs H Q E h => ?_) (fun f cdv A outer s H vs Q E hr h => ?_)
  · obtain ⟨d, c, s, a, t, p, n, kn, hs, ws, cs, rfl, _⟩ := h
    rfl
  · obtain ⟨d, c, s', a, t, p, n, kn, hs, ws, cs, rfl, D0, ht, dp, S, hA, dA, cin, lcs, q⟩ := h
    obtain ⟨_, k, g, wg, es, ha, hk, hg, dg⟩ := dp_stand dp
    cases es
    have lg := dpAll_len dg
    rw [List.length_map] at lg
    have la := dpAll_len dA
    rw [List.length_map] at la
    have F := S.fld
    have p1 := S.p1
    have n1 := S.n1
    have n8 := S.n8
    have few := S.few
    have many := S.many
    have p2 := F.1
    refine ⟨_, ((pss_cons (ps_asg (pv 1) (pg_tup (by rfl) (pgs_cons (pg_name (i := 3) sc__law_otherwise.nd rfl (.inl rfl)) (pgs_cons (pg_name (i := 4) sc__law_otherwise.nd rfl (.inl rfl)) (pgs_cons (pg_name (i := 5) sc__law_otherwise.nd rfl (.inl rfl)) (pgs_cons (pg_name (i := 6) sc__law_otherwise.nd rfl (.inl rfl)) pgs_nil))))))
      (pss_cons (ps_set (i := 7) sc__law_otherwise.nd rfl (.inl rfl) (pe_lst pa_nil))
      (pss_cons (ps_for PassesOwn.never (by rfl) (pi_tup (pe_callO O__law_turned (hr.mono (by omega)) (by rfl) (pa_cons (pv 0) (pa_cons (pv 2) pa_nil)))) (pg_tup (by rfl) (pgs_cons (pg_name (i := 8) sc__law_otherwise.nd rfl (.inl rfl)) (pgs_cons (pg_name (i := 9) sc__law_otherwise.nd rfl (.inl rfl)) pgs_nil)))
        (pss_cons (ps_set (i := 10) sc__law_otherwise.nd rfl (.inl rfl) (pe_callO O__law_callers (hr.mono (by omega)) (by rfl) (pa_cons (pv 1) (pa_cons (pv 9) pa_nil))))
        (pss_cons (ps_set (i := 11) sc__law_otherwise.nd rfl (.inl rfl) (pe_callO O__law_plus (hr.mono (by omega)) (by rfl) (pa_cons (pv 3) (pa_cons (pe_op op_repB (pe_tup (pa_cons pe_int pa_nil)) (pv 4)) (pa_cons (pv 9) (pa_cons (pe_op op_add pe_int (pe_callO O__law_draw (hr.mono (by omega)) (by rfl) (pa_cons (pv 0) (pa_cons (pe_op op_sub (pv 3) pe_int) pa_nil)))) pa_nil))))))
        (pss_one (ps_expr (pe_bm PySem.F.plainAttrs_list PySem.F.slot_list_append PySem.F.type_list_append mt_append (pv 7) (pa_cons (pe_tup (pa_cons (pe_ix ix_list (pv 10) (pe_callO O__law_draw (hr.mono (by omega)) (by rfl) (pa_cons (pv 0) (pa_cons (pe_callB call_len_seq (by rfl) T.b_len (by decide +kernel) (pa_cons (pv 10) pa_nil)) pa_nil))) (fun _ _ => rfl)) (pa_cons (pv 11) pa_nil))) pa_nil)))))))
      (pss_cons (ps_if (PW.pt (pw_and (pt_cmpR (op_neNil hr.units) (pv 7) (pe_lst pa_nil) (nomark _)) (pw_and1 (pt_cmpR op_eq (pe_callO O__law_draw (hr.mono (by omega)) (by rfl) (pa_cons (pv 0) (pa_cons pe_int pa_nil))) pe_int (nomark _)))))
        (pss_one (ps_expr (pe_bm PySem.F.plainAttrs_list PySem.F.slot_list_append PySem.F.type_list_append mt_append (pv 7) (pa_cons (pe_ix ix_list (pv 7) (pe_callO O__law_draw (hr.mono (by omega)) (by rfl) (pa_cons (pv 0) (pa_cons (pe_callB call_len_seq (by rfl) T.b_len (by decide +kernel) (pa_cons (pv 7) pa_nil)) pa_nil))) (fun _ _ => rfl)) pa_nil))))
        pss_nil)
      (pss_one (ps_ret (pe_callTy call_tuple_of (by rfl) T.b_tuple (by decide +kernel) (pa_cons (pv 7) pa_nil))))))))), ?_⟩
    refine ⟨.ref s', rfl, s', _, rfl, ha, rfl, _, _, rfl, _, _, rfl, _, _, rfl, _, _, rfl, rfl, ?_⟩
    refine ⟨Nat.zero_le _, fun o no => ?_⟩
    have bo := D0.fresh no
    generalize h1 : upd H o _ = H1
    obtain ⟨s1, e1⟩ := new_of h1 no
    have D1 := D0.same s1
    refine ⟨.ref d, rfl, .ref a, rfl, d, c, a, t, ws, rfl, D1, by omega, Same.tup s1 hA, by omega, fun H2 l2 ys t2 k2 D2 ht2 e2 pm => ?_⟩
    have k02 : Kept d c H H2 := (Kept.of s1).trans k2
    have noS : noL (standD p n kn hs) = true := noL_stand _ _ _ _
    obtain ⟨ts, pt, dT⟩ := dpAll_perm80 pm (dpAll_tk (Tk.kept D0 k02) _ _ (noL_calls cs) dA)
    have lt := pt.length_eq
    have ly := dpAll_len dT
    rw [List.length_map] at ly
    have sl2 : SqT K H2 l2 ys := .inl (.inl e2)
    have hi6 : ys.length ≤ 6 := by omega
    refine ⟨l2, rfl, ⟨_, sl2⟩, for_it (walk_tup (K := K) (a := l2) (xs := ys)) (fun i σ H' => Kept d c H H' ∧ Tk H2 H' ∧ ∃ (t' : Int) (us : List V) (fs : List (Str × List Int)) (y8 y9 y10 y11 : Option V), Deck H' d c t' ∧ t' ≤ t2 + 2 * i ∧ H' o = some (.lst us) ∧ DpAll K H' us (fs.map callD) ∧ fs.length = i ∧ CallsIn p n hs fs ∧ (∀ x ∈ fs, InR p (rowsC (ts.take i)) x.2) ∧ (∀ x ∈ ts.take i, InR p (rowsC fs) x.2) ∧ σ = [some (.ref d), some (.ref s'), some (.ref a), some (.int p), some (.int (n : Int)), some (.ref k), some (.ref g), some (.ref o), y8, y9, y10, y11]) ⟨k02, Tk.refl _, t2, [], [], none, none, none, none, D2, by omega, deck_keep k2 bo e1, .nil, rfl, fun x hx => (nomatch hx), fun x hx => (nomatch hx), fun x hx => by simp at hx, rfl⟩ (fun i σ H' _ hW => hW.2.1 K _ _ sl2) (fun i x σ H3' H3 hi hW hY => ?_) (fun σ H3 hW => ?_)⟩
    · obtain ⟨rfl, hx⟩ := hY
      obtain ⟨k3, tk3, t3, us, fs, y8, y9, y10, y11, D3, ht3, eo3, dfs, lfs, fin, in1, in2, rfl⟩ := hW
      have hi : i < ys.length := hi
      obtain ⟨d', gd', _, hd'⟩ := dpAll_get (dpAll_tk tk3 _ _ (noL_calls ts) dT) hx
      rw [List.getElem?_map] at gd'
      obtain ⟨z, gz, rfl⟩ := Option.map_eq_some_iff.mp gd'
      have mz : z ∈ cs := pt.mem_iff.mp (List.mem_of_getElem? gz)
      obtain ⟨b, r, rfl, hb, hr3⟩ := dp_call80 hd'
      obtain ⟨okz, hz, mhz, ehz, inz⟩ := cin z mz
      have dp3 : Dp K H3 (.ref s') (standD p n kn hs) := dp_tk (Tk.kept D0 k3) _ _ noS dp
      refine ⟨b, _, rfl, hb, rfl, _, _, rfl, _, _, rfl, rfl, ?_⟩
      refine ⟨.ref s', rfl, .ref r, rfl, s', r, p, n, kn, hs, z.2, rfl, dp3, S, hr3, okz, fun H4 l4 xs s4 nl4 e4 in3 in4 lxs => ?_⟩
      have D4 := D3.same s4
      have b4 := D3.fresh nl4
      refine ⟨.int p, rfl, sz1000 (by decide : (1 : Nat) ≤ 1000), fun u nu => ?_⟩
      generalize h5 : upd H4 u _ = H5
      obtain ⟨s5, e5⟩ := new_of h5 nu
      refine ⟨.int n, rfl, u, n, _, rfl, rfl, .inl (.inl e5), by simp, by omega, by omega, by simp, fun zz H6 s6 hzz => ?_⟩
      rw [show ((n : Int)).toNat = n from rfl, rep_int] at hzz
      have s46 := s5.trans s6
      have D6 := D4.same s46
      refine ⟨.ref r, rfl, .ref d, rfl, .int p, rfl, p, 1, rfl, rfl, d, c, t3, p - 1, rfl, D6, by omega, by omega, by omega, fun H7 m k7 D7 m0 m1 => ?_⟩
      have lz2 : z.2.length = n := (okz _ (List.mem_singleton_self _)).1
      have lz : (List.replicate n (0 : Int)).length = z.2.length := by rw [List.length_replicate, lz2]
      refine ⟨1, m, rfl, rfl, zz, r, _, z.2, p, 1 + m, rfl, Kept.tup D6 k7 hzz, Kept.tup D6 k7 (Same.tup (s4.trans s46) hr3), by rw [List.length_replicate]; omega, by omega, by omega, by omega, fun H8 l8 s8 n8' e8 => ?_⟩
      have k48 : Kept d c H4 H8 := ((Kept.of s46).trans k7).trans (Kept.of s8)
      have k38 : Kept d c H3 H8 := (Kept.of s4).trans k48
      have D8 := D7.same s8
      have e48 := deck_keep k48 b4 e4
      generalize hown : plusR p (List.replicate n 0) z.2 (1 + m) = own at e8
      have lown : own.length = n := by rw [← hown, plus_len lz, List.length_replicate]
      have oown : RowOk p own := by rw [← hown]; exact plus_ok (by omega)
      have lx1 : 1 ≤ xs.length := List.length_pos_of_mem (in4 hz mhz inz)
      refine ⟨.ref o, rfl, .inl ⟨rfl, _, .inl (.inl (deck_keep k38 bo eo3))⟩, .ref l4, rfl, .ref d, rfl, .ref l4, rfl, l4, _, rfl, .inl (.inl (.inl e48)), d, c, t3 + 1, ((xs.map V.str).length : Int), rfl, D8, by omega, by rw [List.length_map]; omega, by rw [List.length_map]; omega, fun H9 y k9 D9 y0 y1 => ?_⟩
      rw [List.length_map] at y1
      have k39 := k38.trans k9
      have e49 := deck_keep (k48.trans k9) b4 e4
      obtain ⟨x, hx⟩ : ∃ x, xs[y.toNat]? = some x := ⟨_, List.getElem?_eq_getElem (by omega)⟩
      have mx : x ∈ xs := List.mem_of_getElem? hx
      obtain ⟨h', mh', eh', ih'⟩ := in3 x mx
      refine ⟨l4, _, y, .str x, rfl, rfl, .inl (.inl e49), (by have := atI_nat (xs := xs.map V.str) (by rw [List.getElem?_map, hx]; rfl); rwa [Int.toNat_of_nonneg y0] at this), .ref l8, rfl, ?_⟩
      refine ⟨Nat.le_of_lt (small1000 (show 2 ≤ 1000 by decide)), fun o15 n15 => ?_⟩
      generalize h15 : upd H9 o15 _ = Ha
      obtain ⟨sk, ek⟩ := new_of h15 n15
      have k3a := k39.trans (Kept.of sk)
      have eoa := deck_keep k3a bo eo3
      have tka := Tk.kept D3 k3a
      have tk : Tk Ha (upd Ha o (.lst (us ++ [.ref o15]))) := (Tk.refl _).mut eoa
      have n15o : o15 ≠ o := fun z => by
        subst z
        rw [ek] at eoa
        cases eoa
      have lus := dpAll_len dfs
      rw [List.length_map] at lus
      have etake : ts.take (i + 1) = ts.take i ++ [z] := by
        rw [List.take_add_one, gz]
        rfl
      have er : rowsC (ts.take (i + 1)) = rowsC (ts.take i) ++ [z.2] := by
        unfold rowsC
        rw [etake, List.map_append]
        rfl
      have ef : rowsC (fs ++ [(x, own)]) = rowsC fs ++ [own] := by
        unfold rowsC
        rw [List.map_append]
        rfl
      refine ⟨o, _, _, rfl, rfl, eoa, small1000 (by omega), (k3.trans k3a).mut no, (tk3.trans tka).trans tk, t3 + 1 + 1, us ++ [.ref o15], fs ++ [(x, own)], _, _, _, _, (D9.same sk).mut bo, by push_cast; omega, upd_same, ?_, by rw [List.length_append, lfs]; rfl, ?_, ?_, ?_, rfl⟩
      · rw [List.map_append]
        refine dpAll_append (dpAll_tk (tka.trans tk) _ _ (noL_calls fs) dfs) (.cons (.tup (xs := [.str x, .ref l8]) (.inl (.inl ?_)) (.cons (.str x) (.cons (row_dp (tk _ _ _ (Same.tup sk (Kept.tup D8 k9 (.inl (.inl e8)))))) .nil))) .nil)
        rw [upd_ne n15o]
        exact ek
      · intro c1 hc
        rcases List.mem_append.mp hc with hc | hc
        · exact fin c1 hc
        · rw [List.mem_singleton.mp hc]
          exact ⟨fun w hw => by
            rw [List.mem_singleton.mp hw]
            exact ⟨lown, oown⟩, h', mh', eh', by
            show InR p h'.2 own
            rw [← hown]
            exact InR.plus _ lz (InR.noughts _ _ _) ih'⟩
      · intro w hw
        rw [er]
        rcases List.mem_append.mp hw with hw | hw
        · exact InR.mono (fun y hy => InR.mem (List.mem_append_left _ hy)) (in1 w hw)
        · rw [List.mem_singleton.mp hw]
          show InR p _ own
          rw [← hown]
          exact InR.plus _ lz (InR.noughts _ _ _) (InR.mem (by simp))
      · intro w hw
        rw [ef]
        rw [etake] at hw
        rcases List.mem_append.mp hw with hw | hw
        · exact InR.mono (fun y hy => InR.mem (List.mem_append_left _ hy)) (in2 w hw)
        · rw [List.mem_singleton.mp hw]
          exact InR.back F (m := 1 + m) (own := own) (n := n) (by omega) (by omega) lz2 (InR.mem (by simp)) (.inl hown.symm)
    · obtain ⟨k3, tk3, t3, us, fs, y8, y9, y10, y11, D3, ht3, eo3, dfs, lfs, fin, in1, in2, rfl⟩ := hW
      have lfs : fs.length = ys.length := lfs
      have ht3 : t3 ≤ t2 + 2 * (ys.length : Int) := ht3
      have lus := dpAll_len dfs
      rw [List.length_map] at lus
      rw [show ts.take ys.length = ts from List.take_of_length_le (by omega)] at in1 in2
      have er : ∀ w, InR p (rowsC ts) w → InR p (rowsC cs) w := fun w hw => InR.mono (fun y hy => by
        obtain ⟨z, mz, rfl⟩ := List.mem_map.mp hy
        exact InR.mem (List.mem_map_of_mem (pt.mem_iff.mp mz))) hw
      have in1 : ∀ c ∈ fs, InR p (rowsC cs) c.2 := fun x hx => er _ (in1 x hx)
      have in2 : ∀ c ∈ cs, InR p (rowsC fs) c.2 := fun x hx => in2 x (pt.mem_iff.mpr hx)
      refine ⟨.ref o, rfl, Nat.zero_le _, fun e0 ne0 => ?_⟩
      generalize h4 : upd H3 e0 _ = H4
      obtain ⟨s4, e4⟩ := new_of h4 ne0
      have D4 := D3.same s4
      have eo4 := s4 _ _ eo3
      have dfs4 := dpAll_same s4 _ _ dfs
      have k4 := k3.trans (Kept.of s4)
      refine ⟨o, e0, us, rfl, rfl, eo4, e4, _, rfl, ?_⟩
      have hb0 : (!us.isEmpty) = true → us ≠ [] := fun h z => by
        subst z
        cases h
      generalize (!us.isEmpty) = b0 at hb0 ⊢
      cases b0 with
      | true =>
        have lu1 : 1 ≤ us.length := Nat.pos_of_ne_zero fun z => hb0 rfl (List.eq_nil_of_length_eq_zero z)
        refine ⟨.ref d, rfl, d, c, t3, 2, rfl, D4, by omega, by decide, by decide, fun H5 z' k5 D5 y0 y1 => ?_⟩
        have eo5 := deck_keep k5 bo eo4
        have dfs5 := dpAll_tk (Tk.kept D4 k5) _ _ (noL_calls fs) dfs4
        refine ⟨rfl, _, rfl, ite2 (fun e => ?_) (fun e => ?_)⟩
        · refine ⟨.ref o, rfl, .inl ⟨rfl, _, .inl (.inl eo5)⟩, .ref o, rfl, .ref d, rfl, .ref o, rfl, o, us, rfl, .inl (.inl (.inl eo5)), d, c, t3 + 1, (us.length : Int), rfl, D5, by omega, by omega, by omega, fun H6 y k6 D6 y0 y1 => ?_⟩
          have eo6 := deck_keep k6 bo eo5
          have dfs6 := dpAll_tk (Tk.kept D5 k6) _ _ (noL_calls fs) dfs5
          obtain ⟨v, hv⟩ : ∃ v, us[y.toNat]? = some v := ⟨_, List.getElem?_eq_getElem (by omega)⟩
          obtain ⟨d', gd', _, hd'⟩ := dpAll_get dfs6 hv
          rw [List.getElem?_map] at gd'
          obtain ⟨z, gz, rfl⟩ := Option.map_eq_some_iff.mp gd'
          have mz := List.mem_of_getElem? gz
          refine ⟨o, us, y, v, rfl, rfl, .inl (.inl eo6), (by have := atI_nat hv; rwa [Int.toNat_of_nonneg y0] at this), o, us, _, rfl, rfl, eo6, small1000 (by omega), ?_⟩
          have tk : Tk H6 (upd H6 o (.lst (us ++ [v]))) := (Tk.refl _).mut eo6
          have kf : Kept d c H (upd H6 o (.lst (us ++ [v]))) := (k4.trans (k5.trans k6)).mut no
          have Df := D6.mut (o := .lst (us ++ [v])) bo
          have ef : upd H6 o (.lst (us ++ [v])) o = some (.lst (us ++ [v])) := upd_same
          have df : DpAll K (upd H6 o (.lst (us ++ [v]))) (us ++ [v]) ((fs ++ [z]).map callD) := by
            rw [List.map_append]
            exact dpAll_append (dpAll_tk tk _ _ (noL_calls fs) dfs6) (.cons (dp_tk tk _ _ (noL_call z) hd') .nil)
          have fin' : CallsIn p n hs (fs ++ [z]) := fun x hx => by
            rcases List.mem_append.mp hx with hx | hx
            · exact fin x hx
            · rw [List.mem_singleton.mp hx]
              exact fin z mz
          have in1' : ∀ x ∈ fs ++ [z], InR p (rowsC cs) x.2 := fun x hx => by
            rcases List.mem_append.mp hx with hx | hx
            · exact in1 x hx
            · rw [List.mem_singleton.mp hx]
              exact in1 z mz
          have in2' : ∀ x ∈ cs, InR p (rowsC (fs ++ [z])) x.2 := fun x hx => InR.mono (fun y hy => InR.mem (by unfold rowsC; rw [List.map_append]; exact List.mem_append_left _ hy)) (in2 x hx)
          refine ⟨.ref o, rfl, o, _, rfl, .inl ⟨.inl (.inl ef), fun l nl => ?_⟩⟩
          generalize h15 : upd _ l _ = G1
          obtain ⟨sk, ek⟩ := new_of h15 nl
          exact q G1 l (t3 + 1 + 1) _ (fs ++ [z]) (kf.trans (Kept.of sk)) (Df.same sk) (by omega) (.inl (.inl ek)) (dpAll_same sk _ _ df) fin' (by rw [List.length_append]; show _ + 1 ≤ 7; omega) in1' in2'
        · refine ⟨.ref o, rfl, o, _, rfl, .inl ⟨.inl (.inl eo5), fun l nl => ?_⟩⟩
          generalize h15 : upd _ l _ = G1
          obtain ⟨sk, ek⟩ := new_of h15 nl
          exact q G1 l (t3 + 1) _ fs ((k4.trans k5).trans (Kept.of sk)) (D5.same sk) (by omega) (.inl (.inl ek)) (dpAll_same sk _ _ dfs5) fin (by omega) in1 in2
      | false =>
        refine ⟨.ref o, rfl, o, _, rfl, .inl ⟨.inl (.inl eo4), fun l nl => ?_⟩⟩
        generalize h15 : upd _ l _ = G1
        obtain ⟨sk, ek⟩ := new_of h15 nl
        exact q G1 l t3 _ fs (k4.trans (Kept.of sk)) (D4.same sk) (by omega) (.inl (.inl ek)) (dpAll_same sk _ _ dfs4) fin (by omega) in1 in2
end
end OC
set_option Elab.async false
set_option linter.all false
set_option maxRecDepth 100000
set_option maxHeartbeats 4000000
namespace OC
open PySem PySem.Spec PyProof.Rows L2
section
variable {P : Program} {w : World} {K : PySem.W.Frag} {mg : Str → Option Value} {base : Heap}
def sp_rising (K : PySem.W.Frag) : Sp := fun vs H Q _ => ∃ (a : Addr) (xs : List V) (ds : List PyData), vs = [.ref a] ∧ SqT K H a xs ∧ DpAll K H xs ds ∧ W.AllAlike ds ∧ (∀ d ∈ ds, d ≠ .none ∧ d.depth ≤ 60) ∧ xs.length ≤ 1000 ∧ ∀ H', Same H H' → Q (.bl (risD ds)) H'
theorem ok_is_rising (T : Top K mg) : Ok P w K mg base 1 "is_rising" ["things"] (sp_rising K) := by
  refine T.d_is_rising.ok sc_is_rising (fun vs H Q E h => ?_) (fun f cdv A outer s H vs Q E hr h => ?_)
  · obtain ⟨a, xs, ds, rfl, _⟩ := h
    rfl
  · obtain ⟨a, xs, ds, rfl, hA, hx, al, ne, l1, q⟩ := h
    refine ⟨_, ((pss_one (ps_ret (pe_callB (cr_all (by rfl)) (by rfl) T.b_all (by decide +kernel) (pa_cons (pe_lc (own := [("one", 1), ("other", 2)]) (g := gTup K 2 (gCons (gName 1) (gCons (gName 2) gNil))) (by rfl) sc_is_rising.nd (pi_zipB (by rfl) T.b_zip (pa_cons (pv 0) (pa_cons (pe_slice sl_tupB (pv 0) (po_some pe_int) po_none) pa_nil))) (blkOk_by (own := [("one", 1), ("other", 2)]) (N := N_is_rising) (sc := defScope s_is_rising) (by decide +kernel)) (fun _ _ _ _ _ => (pg_tup (by rfl) (pgs_cons (pg_name (i := 1) sc_is_rising.nd rfl (.inl rfl)) (pgs_cons (pg_name (i := 2) sc_is_rising.nd rfl (.inl rfl)) pgs_nil)))) (fun _ _ _ _ _ => pts_nil) (fun _ _ _ _ _ => (pe_cmpR (show OpR _ (compareOp .Lt) (rLtD K) from op_ltD hr.units) (pv 1) (pv 2) (nomark _)))) pa_nil))))), ?_⟩
    have lx := dpAll_len hx
    refine ⟨.ref a, rfl, .ref a, rfl, 1, rfl, a, _, rfl, hA, fun b1 H1 s1 hb1 => ?_⟩
    rw [cut1] at hb1
    have hA1 := Same.tup s1 hA
    refine ⟨a, b1, _, _, rfl, hb1, .inl ⟨hA1, fun D nD => ?_⟩⟩
    refine lc_it (walk_zipT (K := K) (a := a) (b := b1) (xs := xs) (ys := xs.drop 1) rfl) (fun k H' => Same H1 H' ∧ H' D = some (.lst (((List.zipWith W.dataLt ds (ds.drop 1)).take k).map V.bl))) ⟨same_upd nD, upd_same⟩ (fun k H' _ hP => ⟨Same.tup hP.1 hA1, Same.tup hP.1 hb1⟩) (fun k x H2 H3 hk hP hY => ?_) (fun H' hP => ?_)
    · obtain ⟨Ta, x1, y1, rfl, nT, rfl, e1, e2⟩ := hY
      obtain ⟨sm, eD⟩ := hP
      have sT : Same H2 (upd H2 Ta (.tup [x1, y1])) := same_upd nT
      have e1 : xs[k]? = some x1 := e1
      have e2 : (xs.drop 1)[k]? = some y1 := e2
      rw [List.getElem?_drop] at e2
      obtain ⟨d1, g1, m1, p1⟩ := dpAll_get hx e1
      obtain ⟨d2, g2, m2, p2⟩ := dpAll_get hx e2
      have sa := (s1.trans sm).trans sT
      refine ⟨Ta, [x1, y1], rfl, .inl (.inl upd_same), rfl, x1, [y1], rfl, y1, [], rfl, rfl, rfl, ?_⟩
      refine ⟨x1, rfl, y1, rfl, d1, d2, dp_same sa _ _ p1, dp_same sa _ _ p2, al _ m1 _ m2, (ne _ m1).1, (ne _ m1).2, ?_⟩
      refine ⟨_, sT _ _ eD, ?_, same_mut (sm.trans sT) nD, ?_⟩
      · rw [List.length_map, List.length_take, List.length_zipWith]
        exact small1000 (by omega)
      · have gd : (ds.drop 1)[k]? = some d2 := by rw [List.getElem?_drop]; exact g2
        rw [upd_same, List.take_add_one, List.getElem?_zipWith, g1, gd, List.map_append]
        rfl
    · obtain ⟨sm, eD⟩ := hP
      rw [List.take_of_length_le (by rw [List.length_zipWith, List.length_drop, List.length_drop]; omega)] at eD
      exact ⟨D, _, rfl, .inl (.inl eD), q H' (s1.trans sm)⟩
theorem lp1 {f : Str} {v : V} : (putF f v []).length < 1000 := Nat.lt_of_le_of_lt (length_putF _ _ _) (by decide)
theorem lp2 {f g : Str} {v u : V} : (putF g u (putF f v [])).length < 1000 := by
  have h1 := length_putF f v []
  have h2 := length_putF g u (putF f v [])
  simp only [List.length_nil] at h1
  omega
theorem lp3 {f g e : Str} {v u z : V} : (putF e z (putF g u (putF f v []))).length < 1000 := by
  have h1 := length_putF f v []
  have h2 := length_putF g u (putF f v [])
  have h3 := length_putF e z (putF g u (putF f v []))
  simp only [List.length_nil] at h1
  omega
theorem lp4 {f g e d : Str} {v u z y : V} : (putF d y (putF e z (putF g u (putF f v [])))).length < 1000 := by
  have h1 := length_putF f v []
  have h2 := length_putF g u (putF f v [])
  have h3 := length_putF e z (putF g u (putF f v []))
  have h4 := length_putF d y (putF e z (putF g u (putF f v [])))
  simp only [List.length_nil] at h1
  omega
def sp_moment (K : PySem.W.Frag) (mg : Str → Option Value) : Sp := fun vs H Q _ => ∃ (x dx c h : Addr) (p : Int) (n : Nat), vs = [.ref x, .int p, .int (n : Int), .ref c, .ref h] ∧ H x = some (.ins (adr mg "Moment") dx []) ∧
  ∀ H', (∀ a o, H a = some o → a ≠ x → H' a = some o) → H' x = some (.ins (adr mg "Moment") dx (momF p n c h)) → Q .non H'
theorem ok_Moment___init__ (T : Top K mg) : OkM P w K mg base 1 "Moment" "__init__" ["self", "p", "n", "called", "hands"] [] (sp_moment K mg) := by
  refine T.d_Moment___init__.ok sc_Moment___init__ (fun vs H Q E h => ?_) (fun f cdv A outer s H vs Q E hr h => ?_)
  · obtain ⟨x, dx, c, h, p, n, rfl, _⟩ := h
    rfl
  · obtain ⟨x, dx, c, hh, p, n, rfl, hx, q⟩ := h
    refine ⟨_, ((pss_cons (ps_fld (pv 0) (pv 1) (by rfl))
      (pss_cons (ps_fld (pv 0) (pv 2) (by rfl))
      (pss_cons (ps_fld (pv 0) (pv 3) (by rfl))
      (pss_one (ps_fld (pv 0) (pv 4) (by rfl))))))), ?_⟩
    refine ⟨.int p, rfl, .ref x, rfl, x, _, dx, _, rfl, hx, T.k_Moment.cl, T.na_Moment_p, by decide, ?_⟩
    refine ⟨.int n, rfl, .ref x, rfl, x, _, dx, _, rfl, upd_same, T.k_Moment.cl, T.na_Moment_n, lp1, ?_⟩
    refine ⟨.ref c, rfl, .ref x, rfl, x, _, dx, _, rfl, upd_same, T.k_Moment.cl, T.na_Moment_called, lp2, ?_⟩
    refine ⟨.ref hh, rfl, .ref x, rfl, x, _, dx, _, rfl, upd_same, T.k_Moment.cl, T.na_Moment_hands, lp3, ?_⟩
    refine q _ (fun a o e ne => ?_) upd_same
    rw [upd_ne ne, upd_ne ne, upd_ne ne, upd_ne ne]
    exact e
/-- a moment newly made -/
theorem mom_made {H H2 : Hp} {x dx c h : Addr} {m : Mom} (nx : H x = none) (ndx : H dx = none) (hc : RowsAt K H c m.called) (hh : Dp K H (.ref h) (.tuple (m.hands.map handD)))
    (k : ∀ a o, (upd (upd H dx (.own x)) x (.ins (adr mg "Moment") dx [])) a = some o → a ≠ x → H2 a = some o) (e : H2 x = some (.ins (adr mg "Moment") dx (momF m.p m.n c h))) : Same H H2 ∧ MomAt K mg H2 x m := by
  have s : Same H H2 := fun b o e => by
    have nb : b ≠ x := fun z => by rw [z, nx] at e; cases e
    have nd : b ≠ dx := fun z => by rw [z, ndx] at e; cases e
    refine k b o ?_ nb
    rw [upd_ne nb, upd_ne nd]
    exact e
  exact ⟨s, dx, c, h, e, RowsAt.same s hc, dp_same s _ _ hh⟩
theorem mom_hands {H : Hp} {h : Addr} {hs : List (Str × List (List Int))} (d : Dp K H (.ref h) (.tuple (hs.map handD))) : ∃ wg, SqT K H h wg ∧ DpAll K H wg (hs.map handD) ∧ wg.length = hs.length := by
  cases d with
  | tup a b =>
    have := dpAll_len b
    rw [List.length_map] at this
    exact ⟨_, a, b, this⟩
def sp_names_at (K : PySem.W.Frag) (mg : Str → Option Value) : Sp := fun vs H Q _ => ∃ (a : Addr) (m : Mom), vs = [.ref a] ∧ MomAt K mg H a m ∧ m.hands.length ≤ 100 ∧ ∀ H' l, Same H H' → SqT K H' l ((m.hands.map Prod.fst).map V.str) → Q (.ref l) H'
theorem ok_names_at (T : Top K mg) : Ok P w K mg base 1 "names_at" ["moment"] (sp_names_at K mg) := by
  refine T.d_names_at.ok sc_names_at (fun vs H Q E h => ?_) (fun f cdv A outer s H vs Q E hr h => ?_)
  · obtain ⟨a, m, rfl, _⟩ := h
    rfl
  · obtain ⟨a, m, rfl, ⟨dx, c, h, ea, hc, hh⟩, lm, q⟩ := h
    refine ⟨_, ((pss_one (ps_ret (pe_callTy call_tuple_of (by rfl) T.b_tuple (by decide +kernel) (pa_cons (pe_lc (own := [("name", 1), ("rows", 2)]) (g := gTup K 2 (gCons (gName 1) (gCons (gName 2) gNil))) (by rfl) sc_names_at.nd (pi_tup (pe_fld (pv 0) (by rfl))) (blkOk_by (own := [("name", 1), ("rows", 2)]) (N := N_names_at) (sc := defScope s_names_at) (by decide +kernel)) (fun _ _ _ _ _ => (pg_tup (by rfl) (pgs_cons (pg_name (i := 1) sc_names_at.nd rfl (.inl rfl)) (pgs_cons (pg_name (i := 2) sc_names_at.nd rfl (.inl rfl)) pgs_nil)))) (fun _ _ _ _ _ => pts_nil) (fun _ _ _ _ _ => (pv 1))) pa_nil))))), ?_⟩
    obtain ⟨wg, hg, dg, lg⟩ := mom_hands hh
    refine ⟨.ref a, rfl, a, _, dx, _, _, rfl, ea, T.k_Moment.cl, T.na_Moment_hands, momF_hands, h, rfl, ⟨_, hg⟩, fun D nD => lc_it (walk_tup (K := K) (a := h) (xs := wg)) (fun i H' => Same H H' ∧ H' D = some (.lst (((m.hands.take i).map Prod.fst).map V.str))) ⟨same_upd nD, upd_same⟩ (fun i H' _ hP => Same.tup hP.1 hg) (fun i x Ha Hb hi hP hY => ?_) (fun H3 hP => ?_)⟩
    · obtain ⟨rfl, hx⟩ := hY
      obtain ⟨s1, eD⟩ := hP
      obtain ⟨c', r, x, rfl, gx, mx, hc', hrr⟩ := dpAll_hand (dpAll_same s1 _ _ dg) hx
      refine ⟨c', _, rfl, hc', rfl, _, _, rfl, _, _, rfl, rfl, rfl, .str x.1, rfl, _, eD, ?_, same_mut s1 nD, ?_⟩
      · rw [List.length_map, List.length_map, List.length_take]
        exact small1000 (by omega)
      · rw [upd_same, List.take_add_one, gx, List.map_append, List.map_append]
        rfl
    · obtain ⟨s3, eD⟩ := hP
      rw [List.take_of_length_le (by omega)] at eD
      exact ⟨D, _, rfl, .inl ⟨.inl (.inl eD), fun l nl => q _ l (s3.trans (same_upd nl)) (.inl (.inl upd_same))⟩⟩
def sp_heard_at (K : PySem.W.Frag) (mg : Str → Option Value) : Sp := fun vs H Q _ => ∃ (a b : Addr) (m : Mom) (ns : List Str), vs = [.ref a, .ref b] ∧ MomAt K mg H a m ∧ SqT K H b (ns.map V.str) ∧ m.hands.length ≤ 9 ∧ (∀ h ∈ m.hands, h.2.length ≤ 1000) ∧
  ∀ H' l, Same H H' → RowsAt K H' l (heardM m ns) → Q (.ref l) H'
theorem ok_heard_at (T : Top K mg) : Ok P w K mg base 1 "heard_at" ["moment", "names"] (sp_heard_at K mg) := by
  refine T.d_heard_at.ok sc_heard_at (fun vs H Q E h => ?_) (fun f cdv A outer s H vs Q E hr h => ?_)
  · obtain ⟨a, b, m, ns, rfl, _⟩ := h
    rfl
  · obtain ⟨a, b, m, ns, rfl, ⟨dx, c, h, ea, hc, hh⟩, hb, lm, lh, q⟩ := h
    refine ⟨_, ((pss_cons (ps_if (pt_cmpR op_eq (pe_callB call_len_seq (by rfl) T.b_len (by decide +kernel) (pa_cons (pv 1) pa_nil)) pe_int (nomark _))
        (pss_one (ps_ret (pe_fld (pv 0) (by rfl))))
        pss_nil)
      (pss_cons (ps_set (i := 2) sc_heard_at.nd rfl (.inl rfl) (pe_lst pa_nil))
      (pss_cons (ps_for PassesOwn.never (by rfl) (pi_tup (pe_fld (pv 0) (by rfl))) (pg_tup (by rfl) (pgs_cons (pg_name (i := 3) sc_heard_at.nd rfl (.inl rfl)) (pgs_cons (pg_name (i := 4) sc_heard_at.nd rfl (.inl rfl)) pgs_nil)))
        (pss_one (ps_if (pt_cmpR op_in_seq (pv 3) (pv 1) (by rfl))
          (pss_one (ps_expr (pe_bm PySem.F.plainAttrs_list PySem.F.slot_list_extend PySem.F.type_list_extend mt_extT (pv 2) (pa_cons (pv 4) pa_nil))))
          pss_nil)))
      (pss_one (ps_ret (pe_callTy call_tuple_of (by rfl) T.b_tuple (by decide +kernel) (pa_cons (pv 2) pa_nil)))))))), ?_⟩
    obtain ⟨wg, hg, dg, lg⟩ := mom_hands hh
    refine ⟨.ref b, rfl, b, _, rfl, .inr hb, rfl, _, rfl, ?_⟩
    by_cases hn : ns = []
    · subst hn
      refine iteT ⟨.ref a, rfl, a, _, dx, _, _, rfl, ea, T.k_Moment.cl, T.na_Moment_called, momF_called, ?_⟩
      exact q H c (Same.refl H) hc
    · have ne : ¬ (V.int ((ns.map V.str).length : Int) = V.int 0) := fun z => by
        injection z with z
        rw [List.length_map] at z
        cases ns with
        | nil => exact hn rfl
        | cons x r => simp at z; omega
      rw [decide_eq_false ne]
      refine iteF ⟨Nat.zero_le _, fun L nL => ?_⟩
      generalize h1 : upd H L _ = H1
      obtain ⟨s1, e1⟩ := new_of h1 nL
      refine ⟨.ref a, rfl, a, _, dx, _, _, rfl, s1 _ _ ea, T.k_Moment.cl, T.na_Moment_hands, momF_hands, h, rfl, ⟨_, Same.tup s1 hg⟩, for_it (walk_tup (K := K) (a := h) (xs := wg)) (fun i σ H' => Same H H' ∧ ∃ (ws : List V) (y3 y4 : Option V), H' L = some (.lst ws) ∧ DpAll K H' ws ((selR ns (m.hands.take i)).map rowD) ∧ σ = [some (.ref a), some (.ref b), some (.ref L), y3, y4]) ⟨s1, [], none, none, e1, .nil, rfl⟩ (fun i σ H' _ hW => Same.tup hW.1 hg) (fun i x σ H2 H3 hi hW hY => ?_) (fun σ H2 hW => ?_)⟩
      · obtain ⟨rfl, hx⟩ := hY
        obtain ⟨s2, ws, y3, y4, eL, dl, rfl⟩ := hW
        obtain ⟨c', r, x, rfl, gx, mx, hc', hrr⟩ := dpAll_hand (dpAll_same s2 _ _ dg) hx
        refine ⟨c', _, rfl, hc', rfl, _, _, rfl, _, _, rfl, rfl, ?_⟩
        refine ⟨.str x.1, rfl, .ref b, rfl, b, _, rfl, .inr (Same.tup s2 hb), rfl, flat_strs ns, _, rfl, ?_⟩
        rw [show (if false = true then !inV (V.str x.1) (ns.map V.str) else inV (V.str x.1) (ns.map V.str)) = decide (x.1 ∈ ns) from in_strs x.1 ns]
        have st := sel_take (ns := ns) gx
        by_cases hn : x.1 ∈ ns
        · rw [decide_eq_true hn]
          rw [if_pos hn] at st
          obtain ⟨w2, hr1, hr2⟩ := hrr
          have l1 := rows_len dl
          have l2 := rows_len hr2
          have ls := sel_len (ns := ns) (B := 1000) (hs := m.hands.take i) (fun y hy => lh y (List.mem_of_mem_take hy))
          have ls9 : (selR ns (m.hands.take i)).length ≤ 1000 * 9 := Nat.le_trans ls (Nat.mul_le_mul_left 1000 (by rw [List.length_take]; omega))
          have lx := lh x mx
          have tk := (Tk.refl H3).mut eL (ys := ws ++ w2)
          refine iteT ⟨.ref L, rfl, .inl ⟨rfl, _, .inl (.inl eL)⟩, .ref r, rfl, L, r, ws, w2, rfl, rfl, eL, hr1, Nat.le_trans (show ws.length + w2.length ≤ 10000 by omega) (by decide), ?_⟩
          refine ⟨same_mut s2 nL, ws ++ w2, _, _, upd_same, ?_, rfl⟩
          rw [st, List.map_append]
          exact dpAll_append (dpAll_tk tk _ _ (noL_rows _) dl) (dpAll_tk tk _ _ (noL_rows _) hr2)
        · rw [decide_eq_false hn]
          rw [if_neg hn, List.append_nil] at st
          exact iteF ⟨s2, ws, _, _, eL, by rw [st]; exact dl, rfl⟩
      · obtain ⟨s2, ws, y3, y4, eL, dl, rfl⟩ := hW
        rw [List.take_of_length_le (by omega)] at dl
        refine ⟨.ref L, rfl, L, _, rfl, .inl ⟨.inl (.inl eL), fun l nl => ?_⟩⟩
        have s3 : Same H2 (upd H2 l (.tup ws)) := same_upd nl
        refine q _ l (s2.trans s3) ?_
        unfold heardM
        rw [if_neg hn]
        exact ⟨ws, .inl (.inl upd_same), dpAll_same s3 _ _ dl⟩
def sp_known_at (K : PySem.W.Frag) (mg : Str → Option Value) : Sp := fun vs H Q _ => ∃ (a b : Addr) (m : Mom) (ns : List Str), vs = [.ref a, .ref b] ∧ MomAt K mg H a m ∧ SqT K H b (ns.map V.str) ∧ MomOk 1000 m ∧
  ∀ H' l, Same H H' → RowsAt K H' l (plainR m.p m.n (heardM m ns)) → Q (.ref l) H'
theorem heard_ok {B : Nat} {m : Mom} (M : MomOk B m) (ns : List Str) : RowsOk m.p m.n (heardM m ns) := by
  unfold heardM
  split
  · exact M.okc
  · intro r hr
    obtain ⟨h, mh, hr⟩ := List.mem_flatMap.mp hr
    split at hr
    · exact M.okh h mh r hr
    · cases hr
theorem ok_known_at (T : Top K mg) : Ok P w K mg base 6 "known_at" ["moment", "names"] (sp_known_at K mg) := by
  have O_heard_at := ok_heard_at (P := P) (w := w) (base := base) T
  have O_room_of := ok_room_of (P := P) (w := w) (base := base) T
  refine T.d_known_at.ok sc_known_at (fun vs H Q E h => ?_) (fun f cdv A outer s H vs Q E hr h => ?_)
  · obtain ⟨a, b, m, ns, rfl, _⟩ := h
    rfl
  · obtain ⟨a, b, m, ns, rfl, ma, hb, M, q⟩ := h
    obtain ⟨dx, c, h, ea, hc, hh⟩ := id ma
    refine ⟨_, ((pss_one (ps_ret (pe_callO O_room_of (hr.mono (by omega)) (by rfl) (pa_cons (pe_fld (pv 0) (by rfl)) (pa_cons (pe_fld (pv 0) (by rfl)) (pa_cons (pe_callO O_heard_at (hr.mono (by omega)) (by rfl) (pa_cons (pv 0) (pa_cons (pv 1) pa_nil))) pa_nil))))))), ?_⟩
    refine ⟨.ref a, rfl, a, _, dx, _, _, rfl, ea, T.k_Moment.cl, T.na_Moment_p, momF_p, .ref a, rfl, a, _, dx, _, _, rfl, ea, T.k_Moment.cl, T.na_Moment_n, momF_n, ?_⟩
    refine ⟨.ref a, rfl, .ref b, rfl, a, b, m, ns, rfl, ma, hb, Nat.le_trans M.many (by decide), M.lh, fun H1 l s1 r1 => ?_⟩
    have n8 := M.n8
    exact ⟨l, heardM m ns, m.p, m.n, rfl, r1, heard_ok M ns, M.fld, M.n1, by omega, M.p1, fun H2 l2 s2 r2 => q H2 l2 (s1.trans s2) r2⟩
/-- the letters that names are made of -/
def LT : Str := "abcdefghijklmnopqrstuvwxyz"
def okc (c : Nat) : Bool := !(Builtin.Str.occurrences LT ⟨#[c]⟩ 0 LT.length 1).isEmpty
def rInStr : V → V → Hp → VK → Prop := fun x y H Q => ∃ i j, x = .str i ∧ y = .str j ∧ Q (.bl (!(Builtin.Str.occurrences j i 0 j.length 1).isEmpty)) H
def nameB : PyData → Bool
  | .str z => (decide (1 ≤ z.length) && decide (z.length ≤ 8)) && z.cps.toList.all okc
  | _ => false
theorem okc_all : ∀ c ∈ List.range' 97 26, okc c = true := by decide +kernel
theorem nameB_ok {x : Str} (h : NameOk x) : nameB (.str x) = true := by
  simp only [nameB, Bool.and_eq_true, decide_eq_true_eq, List.all_eq_true]
  refine ⟨⟨h.1, h.2.1⟩, fun c hc => ?_⟩
  have := h.2.2 c hc
  exact okc_all c (List.mem_range'_1.mpr ⟨this.1, by omega⟩)
def sp_is_name (K : PySem.W.Frag) : Sp := fun vs H Q _ => ∃ (v : V) (d : PyData) (bad : Addr → Prop), vs = [v] ∧ Rep K H bad v d ∧ (∀ z, d = .str z → z.length ≤ 1000000) ∧ ∀ H', Same H H' → Q (.bl (nameB d)) H'
theorem ok_is_name (T : Top K mg) : Ok P w K mg base 1 "is_name" ["thing"] (sp_is_name K) := by
  refine T.d_is_name.ok sc_is_name (fun vs H Q E h => ?_) (fun f cdv A outer s H vs Q E hr h => ?_)
  · obtain ⟨v, d, bad, rfl, _⟩ := h
    rfl
  · obtain ⟨v, d, bad, rfl, rv, lz, q⟩ := h
    refine ⟨_, ((pss_one (ps_ret (pe_and (pe_callB call_isi (by rfl) T.b_isinstance (by decide +kernel) (pa_cons (pv 0) (pa_cons (pe_bltn (v := .ty "str") (u := .type "str") (by rfl) T.b_str (by decide +kernel) rfl) pa_nil))) (pe_and (pe_chain op_le op_le pe_int (pe_callB call_len_str (by rfl) T.b_len (by decide +kernel) (pa_cons (pv 0) pa_nil)) pe_int) (pe_one (pe_callB (cr_all (by rfl)) (by rfl) T.b_all (by decide +kernel) (pa_cons (pe_lc (own := [("sign", 1)]) (g := gName 1) (by rfl) sc_is_name.nd (pi_str (pv 0)) (blkOk_by (own := [("sign", 1)]) (N := N_is_name) (sc := defScope s_is_name) (by decide +kernel)) (fun _ _ _ _ _ => (pg_name (i := 1) sc_is_name.nd rfl (.inl rfl))) (fun _ _ _ _ _ => pts_nil) (fun _ _ _ _ _ => (pe_cmpR (show OpR _ (compareOp .In) rInStr from op_in_str) (pv 1) (pe_cstr T.c_LETTERS (by rfl)) (by rfl)))) pa_nil)))))))), ?_⟩
    refine ⟨v, rfl, v, .ty "str", _, _, _, rfl, .ty "str", rv.kd, kit_str _, _, rfl, ?_⟩
    by_cases hk : kdOf d = .str
    · obtain ⟨z, rfl⟩ : ∃ z, d = .str z := by cases d <;> first | exact ⟨_, rfl⟩ | cases hk
      cases rv
      have lz := lz z rfl
      rw [decide_eq_true hk]
      refine iteT ⟨.str z, rfl, z, rfl, Nat.le_trans lz (by decide), ?_⟩
      refine ⟨1, _, rfl, rfl, _, rfl, ?_⟩
      by_cases h1 : 1 ≤ z.length
      · rw [decide_eq_true (show (1 : Int) ≤ (z.length : Int) by omega)]
        refine iteT ⟨_, 8, rfl, rfl, _, rfl, ?_⟩
        by_cases h8 : z.length ≤ 8
        · rw [decide_eq_true (show (z.length : Int) ≤ 8 by omega)]
          have ls : z.cps.size ≤ 8 := h8
          refine iteT ⟨.str z, rfl, z, rfl, fun D nD => lc_it (walk_str (z := z)) (fun i H' => Same H H' ∧ H' D = some (.lst (((z.cps.toList.take i).map okc).map V.bl))) ⟨same_upd nD, upd_same⟩ (fun i H' _ hP => trivial) (fun i x Ha Hb hi hP hY => ?_) (fun H3 hP => ?_)⟩
          · obtain ⟨rfl, c, hc, rfl⟩ := hY
            obtain ⟨s1, eD⟩ := hP
            refine ⟨rfl, .str ⟨#[c]⟩, rfl, ⟨#[c]⟩, LT, rfl, rfl, _, eD, ?_, same_mut s1 nD, ?_⟩
            · rw [List.length_map, List.length_map, List.length_take]
              exact small1000 (by omega)
            · have g : z.cps.toList[i]? = some c := by rw [Array.getElem?_toList]; exact hc
              rw [upd_same, List.take_add_one, g, List.map_append, List.map_append]
              rfl
          · obtain ⟨s3, eD⟩ := hP
            rw [List.take_of_length_le (by simp)] at eD
            refine ⟨D, _, rfl, .inl (.inl eD), ?_⟩
            have := q H3 s3
            simp only [nameB] at this
            rw [decide_eq_true h1, decide_eq_true h8, Bool.true_and, Bool.true_and] at this
            rw [List.all_map]
            exact this
        · rw [decide_eq_false (show ¬ (z.length : Int) ≤ 8 by omega)]
          refine iteF ?_
          have := q H (Same.refl H)
          simp only [nameB] at this
          rw [decide_eq_false h8, Bool.and_false, Bool.false_and] at this
          exact this
      · rw [decide_eq_false (show ¬ (1 : Int) ≤ (z.length : Int) by omega)]
        refine iteF ⟨_, rfl, iteF ?_⟩
        have := q H (Same.refl H)
        simp only [nameB] at this
        rw [decide_eq_false h1, Bool.false_and, Bool.false_and] at this
        exact this
    · rw [decide_eq_false hk]
      refine iteF ?_
      have e : nameB d = false := by
        cases d <;> first | rfl | exact absurd rfl hk
      rw [e] at q
      exact q H (Same.refl H)
def sp_check_rowB (K : PySem.W.Frag) : Sp := fun vs H Q _ => ∃ (a : Addr) (r : List Int) (p : Int) (n : Nat), vs = [.int p, .int (n : Int), .ref a] ∧ SqT K H a (r.map V.int) ∧ RowsOk p n [r] ∧ r.length ≤ 1000 ∧ ∀ H', Same H H' → Q .non H'
theorem ok_check_rowB (T : Top K mg) : Ok P w K mg base 4 "check_row" ["p", "n", "row"] (sp_check_rowB K) := by
  have O_is_row := ok_is_row (P := P) (w := w) (base := base) T
  refine T.d_check_row.ok sc_check_row (fun vs H Q E h => ?_) (fun f cdv A outer s H vs Q E hr h => ?_)
  · obtain ⟨a, r, p, n, rfl, _⟩ := h
    rfl
  · obtain ⟨a, r, p, n, rfl, ha, ok, ln, q⟩ := h
    refine ⟨_, ((pss_one (ps_if (pt_not (pt_val (pe_callO O_is_row (hr.mono (by omega)) (by rfl) (pa_cons (pv 0) (pa_cons (pv 1) (pa_cons (pv 2) pa_nil))))))
        (pss_one ps_dead)
        pss_nil))), ?_⟩
    have lr := (ok r List.mem_cons_self).1
    refine ⟨.int p, rfl, .int n, rfl, .ref a, rfl, p, n, .ref a, rowD r, rfl, row_rep ha, ?_, fun H1 s1 => ⟨_, rfl, ?_⟩⟩
    · show (r.map PyData.int).length ≤ 1000
      rw [List.length_map]
      exact ln
    · rw [isRow_row (ok r List.mem_cons_self)]
      exact iteF (q H1 s1)
def sp_check_handB (K : PySem.W.Frag) : Sp := fun vs H Q _ => ∃ (b : Addr) (x : Str) (ns : List Str), vs = [.ref b, .str x] ∧ SqT K H b (ns.map V.str) ∧ x ∈ ns ∧ Q .non H
theorem ok_check_handB (T : Top K mg) : Ok P w K mg base 1 "check_hand" ["there", "hand"] (sp_check_handB K) := by
  refine T.d_check_hand.ok sc_check_hand (fun vs H Q E h => ?_) (fun f cdv A outer s H vs Q E hr h => ?_)
  · obtain ⟨b, x, ns, rfl, _⟩ := h
    rfl
  · obtain ⟨b, x, ns, rfl, hb, mx, q⟩ := h
    refine ⟨_, ((pss_one (ps_if (pt_cmpR op_notIn_seq (pv 1) (pv 0) (by rfl))
        (pss_one ps_dead)
        pss_nil))), ?_⟩
    refine ⟨.str x, rfl, .ref b, rfl, b, _, rfl, .inr hb, rfl, flat_strs ns, _, rfl, ?_⟩
    rw [show (if true = true then !inV (V.str x) (ns.map V.str) else inV (V.str x) (ns.map V.str)) = !decide (x ∈ ns) from congrArg (fun z => !z) (in_strs x ns), decide_eq_true mx]
    exact iteF q
theorem alike_names (ns : List Str) : W.AllAlike (ns.map PyData.str) := fun d hd d' hd' => by
  obtain ⟨x, _, rfl⟩ := List.mem_map.mp hd
  obtain ⟨y, _, rfl⟩ := List.mem_map.mp hd'
  rfl
def sp_are_names (K : PySem.W.Frag) : Sp := fun vs H Q _ => ∃ (b : Addr) (ns : List Str), vs = [.ref b] ∧ SqT K H b (ns.map V.str) ∧ (∀ x ∈ ns, NameOk x) ∧ ns.Pairwise sl ∧ ns.length ≤ 100 ∧ ∀ H', Same H H' → Q (.bl true) H'
theorem ok_are_names (T : Top K mg) : Ok P w K mg base 2 "are_names" ["thing"] (sp_are_names K) := by
  have O_is_name := ok_is_name (P := P) (w := w) (base := base) T
  have O_is_rising := ok_is_rising (P := P) (w := w) (base := base) T
  refine T.d_are_names.ok sc_are_names (fun vs H Q E h => ?_) (fun f cdv A outer s H vs Q E hr h => ?_)
  · obtain ⟨b, ns, rfl, _⟩ := h
    rfl
  · obtain ⟨b, ns, rfl, hb, nm, srt, l1, q⟩ := h
    refine ⟨_, ((pss_one (ps_ret (pe_and (pe_callB call_isi (by rfl) T.b_isinstance (by decide +kernel) (pa_cons (pv 0) (pa_cons (pe_bltn (v := .ty "tuple") (u := .type "tuple") (by rfl) T.b_tuple (by decide +kernel) rfl) pa_nil))) (pe_and (pe_callB (cr_all (by rfl)) (by rfl) T.b_all (by decide +kernel) (pa_cons (pe_lc (own := [("part", 1)]) (g := gName 1) (by rfl) sc_are_names.nd (pi_tup (pv 0)) (blkOk_by (own := [("part", 1)]) (N := N_are_names) (sc := defScope s_are_names) (by decide +kernel)) (fun _ _ _ _ _ => (pg_name (i := 1) sc_are_names.nd rfl (.inl rfl))) (fun _ _ _ _ _ => pts_nil) (fun _ _ _ _ _ => (pe_callO O_is_name (hr.mono (by omega)) (by rfl) (pa_cons (pv 1) pa_nil)))) pa_nil)) (pe_one (pe_callO O_is_rising (hr.mono (by omega)) (by rfl) (pa_cons (pv 0) pa_nil)))))))), ?_⟩
    refine ⟨.ref b, rfl, .ref b, .ty "tuple", _, _, _, rfl, .ty "tuple", kd_tup hb, kit_tuple _, _, rfl, iteT ?_⟩
    refine ⟨.ref b, rfl, b, rfl, ⟨_, hb⟩, fun D nD => lc_it (walk_tup (K := K) (a := b) (xs := ns.map V.str)) (fun i H' => Same H H' ∧ H' D = some (.lst ((List.replicate i true).map V.bl))) ⟨same_upd nD, upd_same⟩ (fun i H' _ hP => Same.tup hP.1 hb) (fun i x Ha Hb hi hP hY => ?_) (fun H3 hP => ?_)⟩
    · obtain ⟨rfl, hx⟩ := hY
      obtain ⟨s1, eD⟩ := hP
      rw [List.getElem?_map] at hx
      obtain ⟨x, gx, rfl⟩ := Option.map_eq_some_iff.mp hx
      have hi : i < ns.length := (List.getElem?_eq_some_iff.mp gx).1
      have nmx := nm x (List.mem_of_getElem? gx)
      refine ⟨rfl, .str x, rfl, .str x, .str x, NB, rfl, .str x, fun z hz => by injection hz with hz; rw [← hz]; exact Nat.le_trans nmx.2.1 (by decide), fun H4 s4 => ?_⟩
      rw [nameB_ok nmx]
      refine ⟨_, s4 _ _ eD, ?_, same_mut (s1.trans s4) nD, ?_⟩
      · rw [List.length_map, List.length_replicate]
        exact small1000 (by omega)
      · rw [upd_same, List.replicate_succ', List.map_append]
        rfl
    · obtain ⟨s3, eD⟩ := hP
      refine ⟨D, _, rfl, .inl (.inl eD), true, by simp, iteT ?_⟩
      refine ⟨.ref b, rfl, b, _, ns.map PyData.str, rfl, Same.tup s3 hb, dpAll_strs ns, alike_names ns, fun d hd => ?_, by rw [List.length_map]; omega, fun H4 s4 => ?_⟩
      · obtain ⟨x, _, rfl⟩ := List.mem_map.mp hd
        exact ⟨fun z => (nomatch z), by simp only [PyData.depth]; omega⟩
      · rw [(ris_strs ns).mpr srt]
        exact q H4 (s3.trans s4)
def sp_check_hands (K : PySem.W.Frag) : Sp := fun vs H Q _ => ∃ (a b : Addr) (ns ms : List Str) (k : Int), vs = [.ref a, .ref b, .int k] ∧ SqT K H a (ns.map V.str) ∧ SqT K H b (ms.map V.str) ∧ (∀ x ∈ ms, NameOk x) ∧ ms.Pairwise sl ∧ ms.length ≤ 100 ∧ k ≤ ms.length ∧ (∀ x ∈ ms, x ∈ ns) ∧ ∀ H', Same H H' → Q .non H'
theorem ok_check_hands (T : Top K mg) : Ok P w K mg base 3 "check_hands" ["there", "hands", "least"] (sp_check_hands K) := by
  have O_are_names := ok_are_names (P := P) (w := w) (base := base) T
  have O_check_hand := ok_check_handB (P := P) (w := w) (base := base) T
  refine T.d_check_hands.ok sc_check_hands (fun vs H Q E h => ?_) (fun f cdv A outer s H vs Q E hr h => ?_)
  · obtain ⟨a, b, ns, ms, k, rfl, _⟩ := h
    rfl
  · obtain ⟨a, b, ns, ms, k, rfl, ha, hb, nm, srt, l1, lk, inn, q⟩ := h
    refine ⟨_, ((pss_cons (ps_if (PW.pt (pw_or (pt_not (pt_val (pe_callO O_are_names (hr.mono (by omega)) (by rfl) (pa_cons (pv 1) pa_nil)))) (pw_or1 (pt_cmpR op_lt (pe_callB call_len_seq (by rfl) T.b_len (by decide +kernel) (pa_cons (pv 1) pa_nil)) (pv 2) (nomark _)))))
        (pss_one ps_dead)
        pss_nil)
      (pss_one (ps_for PassesOwn.never (by rfl) (pi_tup (pv 1)) (pg_name (i := 3) sc_check_hands.nd rfl (.inl rfl))
        (pss_one (ps_expr (pe_callO O_check_hand (hr.mono (by omega)) (by rfl) (pa_cons (pv 0) (pa_cons (pv 3) pa_nil))))))))), ?_⟩
    refine ⟨.ref b, rfl, b, ms, rfl, hb, nm, srt, l1, fun H1 s1 => ⟨_, rfl, iteF ?_⟩⟩
    have hb1 := Same.tup s1 hb
    refine ⟨.ref b, rfl, b, _, rfl, .inr hb1, .int k, rfl, _, _, rfl, rfl, _, rfl, ?_⟩
    rw [decide_eq_false (show ¬ (((ms.map V.str).length : Int) < k) by rw [List.length_map]; omega)]
    refine iteF ⟨.ref b, rfl, b, rfl, ⟨_, hb1⟩, for_it (walk_tup (K := K) (a := b) (xs := ms.map V.str)) (fun i σ H' => Same H H' ∧ ∃ y3 : Option V, σ = [some (.ref a), some (.ref b), some (.int k), y3]) ⟨s1, none, rfl⟩ (fun i σ H' _ hW => Same.tup hW.1 hb) (fun i x σ H2 H3 hi hW hY => ?_) (fun σ H2 hW => ?_)⟩
    · obtain ⟨rfl, hx⟩ := hY
      obtain ⟨s2, y3, rfl⟩ := hW
      rw [List.getElem?_map] at hx
      obtain ⟨x, gx, rfl⟩ := Option.map_eq_some_iff.mp hx
      exact ⟨.ref a, rfl, .str x, rfl, a, x, ns, rfl, Same.tup s2 ha, inn x (List.mem_of_getElem? gx), s2, _, rfl⟩
    · obtain ⟨s2, y3, rfl⟩ := hW
      exact q _ s2
/-- behind a call, behind a whisper -/
def callM (m : Mom) (r : List Int) : Mom := { m with called := m.called ++ [r], hands := m.hands.map fun h => (h.1, h.2 ++ [r]) }
def whisperM (m : Mom) (ns : List Str) (r : List Int) : Mom := { m with hands := m.hands.map fun h => if h.1 ∈ ns then (h.1, h.2 ++ [r]) else h }
/-- the tuple of hands, each changed -/
theorem made_mom {H : Hp} {c h : Addr} {m' : Mom} {Q : VK} (hc : RowsAt K H c m'.called) (hh : Dp K H (.ref h) (.tuple (m'.hands.map handD))) (q : ∀ H' a, Same H H' → MomAt K mg H' a m' → Q (.ref a) H') :
    ∀ x dx, H x = none → H dx = none → dx ≠ x → sp_moment K mg (.ref x :: ([.int m'.p, .int (m'.n : Int), .ref c, .ref h] ++ [])) (upd (upd H dx (.own x)) x (.ins (adr mg "Moment") dx [])) (fun v H2 => v = .non ∧ Q (.ref x) H2) E0 := fun x dx nx ndx ne => by
  refine ⟨x, dx, c, h, m'.p, m'.n, rfl, upd_same, fun H' k e => ⟨rfl, ?_⟩⟩
  obtain ⟨s, at'⟩ := mom_made (m := m') nx ndx hc hh k e
  exact q H' x s at'
def sp_after_call (K : PySem.W.Frag) (mg : Str → Option Value) : Sp := fun vs H Q _ => ∃ (a b : Addr) (x : Str) (r : List Int) (m : Mom), vs = [.ref a, .str x, .ref b] ∧ MomAt K mg H a m ∧ MomOk 900 m ∧ SqT K H b (r.map V.int) ∧ RowsOk m.p m.n [r] ∧ x ∈ m.hands.map Prod.fst ∧ hasR m.p m.n (plainR m.p m.n (heardM m [x])) r = true ∧
  ∀ H' a', Same H H' → MomAt K mg H' a' (callM m r) → Q (.ref a') H'
theorem ok_after_call (T : Top K mg) : Ok P w K mg base 7 "after_call" ["moment", "hand", "row"] (sp_after_call K mg) := by
  have O_check_hand := ok_check_handB (P := P) (w := w) (base := base) T
  have O_names_at := ok_names_at (P := P) (w := w) (base := base) T
  have O_check_row := ok_check_rowB (P := P) (w := w) (base := base) T
  have O_within := ok_within (P := P) (w := w) (base := base) T
  have O_known_at := ok_known_at (P := P) (w := w) (base := base) T
  have O_Moment___init__ := ok_Moment___init__ (P := P) (w := w) (base := base) T
  refine T.d_after_call.ok sc_after_call (fun vs H Q E h => ?_) (fun f cdv A outer s H vs Q E hr h => ?_)
  · obtain ⟨a, b, x, r, m, rfl, _⟩ := h
    rfl
  · obtain ⟨a, b, x, r, m, rfl, ma, M, hb, ok, mx, has, q⟩ := h
    obtain ⟨dx, c, h, ea, hc, hh⟩ := id ma
    refine ⟨_, ((pss_cons (ps_expr (pe_callO O_check_hand (hr.mono (by omega)) (by rfl) (pa_cons (pe_callO O_names_at (hr.mono (by omega)) (by rfl) (pa_cons (pv 0) pa_nil)) (pa_cons (pv 1) pa_nil))))
      (pss_cons (ps_expr (pe_callO O_check_row (hr.mono (by omega)) (by rfl) (pa_cons (pe_fld (pv 0) (by rfl)) (pa_cons (pe_fld (pv 0) (by rfl)) (pa_cons (pv 2) pa_nil)))))
      (pss_cons (ps_if (pt_not (pt_val (pe_callO O_within (hr.mono (by omega)) (by rfl) (pa_cons (pe_fld (pv 0) (by rfl)) (pa_cons (pe_callO O_known_at (hr.mono (by omega)) (by rfl) (pa_cons (pv 0) (pa_cons (pe_tup (pa_cons (pv 1) pa_nil)) pa_nil))) (pa_cons (pv 2) pa_nil))))))
        (pss_one ps_dead)
        pss_nil)
      (pss_cons (ps_set (i := 5) sc_after_call.nd rfl (.inl rfl) (pe_callTy call_tuple_of (by rfl) T.b_tuple (by decide +kernel) (pa_cons (pe_lc (own := [("name", 3), ("rows", 4)]) (g := gTup K 2 (gCons (gName 3) (gCons (gName 4) gNil))) (by rfl) sc_after_call.nd (pi_tup (pe_fld (pv 0) (by rfl))) (blkOk_by (own := [("name", 3), ("rows", 4)]) (N := N_after_call) (sc := defScope s_after_call) (by decide +kernel)) (fun _ _ _ _ _ => (pg_tup (by rfl) (pgs_cons (pg_name (i := 3) sc_after_call.nd rfl (.inl rfl)) (pgs_cons (pg_name (i := 4) sc_after_call.nd rfl (.inl rfl)) pgs_nil)))) (fun _ _ _ _ _ => pts_nil) (fun _ _ _ _ _ => (pe_tup (pa_cons (pv 3) (pa_cons (pe_op (show OpR _ (binaryOp .Add) (rCatB K) from op_catB) (pv 4) (pe_tup (pa_cons (pv 2) pa_nil))) pa_nil))))) pa_nil)))
      (pss_one (ps_ret (pe_makeO O_Moment___init__ T.k_Moment (hr.mono (by omega)) (by rfl) (pa_cons (pe_fld (pv 0) (by rfl)) (pa_cons (pe_fld (pv 0) (by rfl)) (pa_cons (pe_op op_catB (pe_fld (pv 0) (by rfl)) (pe_tup (pa_cons (pv 2) pa_nil))) (pa_cons (pv 5) pa_nil)))))))))))), ?_⟩
    have many := M.many
    have n8 := M.n8
    have M1 := M.mono (show 900 ≤ 1000 by decide)
    have F1 : ∀ {H' : Hp}, Same H H' → H' a = some (.ins (adr mg "Moment") dx (momF m.p m.n c h)) := fun s => s _ _ ea
    refine ⟨.ref a, rfl, a, m, rfl, ma, by omega, fun H1 l1 s1 h1 => ?_⟩
    refine ⟨.str x, rfl, l1, x, _, rfl, h1, mx, ?_⟩
    refine ⟨.ref a, rfl, a, _, dx, _, _, rfl, F1 s1, T.k_Moment.cl, T.na_Moment_p, momF_p, .ref a, rfl, a, _, dx, _, _, rfl, F1 s1, T.k_Moment.cl, T.na_Moment_n, momF_n, .ref b, rfl, ?_⟩
    have lr := (ok r List.mem_cons_self).1
    refine ⟨b, r, m.p, m.n, rfl, Same.tup s1 hb, ok, by omega, fun H2 s2 => ?_⟩
    have s12 := s1.trans s2
    refine ⟨.ref a, rfl, a, _, dx, _, _, rfl, F1 s12, T.k_Moment.cl, T.na_Moment_p, momF_p, .ref a, rfl, .str x, rfl, sz1000 (by decide : (1 : Nat) ≤ 1000), fun o no => ?_⟩
    generalize h3 : upd H2 o _ = H3
    obtain ⟨s3, e3⟩ := new_of h3 no
    refine ⟨a, o, m, [x], rfl, ma.same (s12.trans s3), .inl (.inl e3), M1, fun H4 l4 s4 r4 => ?_⟩
    have s14 := s12.trans (s3.trans s4)
    refine ⟨.ref b, rfl, b, l4, _, r, m.p, m.n, rfl, r4, Same.tup s14 hb, PFR.of_plain M.fld (heard_ok M [x]), ok, M.fld, by omega, M.p1, fun H5 s5 => ⟨_, rfl, ?_⟩⟩
    rw [has]
    refine iteF ?_
    have s15 := s14.trans s5
    obtain ⟨wg, hg, dg, lg⟩ := mom_hands hh
    have hb5 := Same.tup s15 hb
    refine ⟨.ref a, rfl, a, _, dx, _, _, rfl, F1 s15, T.k_Moment.cl, T.na_Moment_hands, momF_hands, h, rfl, ⟨_, Same.tup s15 hg⟩, fun D nD => lc_it (walk_tup (K := K) (a := h) (xs := wg)) (fun i H' => Same H5 H' ∧ ∃ ws : List V, H' D = some (.lst ws) ∧ ws.length = i ∧ DpAll K H' ws (((callM m r).hands.take i).map handD)) ⟨same_upd nD, [], upd_same, rfl, .nil⟩ (fun i H' _ hP => Same.tup (s15.trans hP.1) hg) (fun i v Ha Hb hi hP hY => ?_) (fun H6 hP => ?_)⟩
    · obtain ⟨rfl, hx⟩ := hY
      obtain ⟨s6, ws, eD, lw, dl⟩ := hP
      have s16 := s15.trans s6
      obtain ⟨c', rr, y, rfl, gy, my, hc', hrr⟩ := dpAll_hand (dpAll_same s16 _ _ dg) hx
      refine ⟨c', _, rfl, hc', rfl, _, _, rfl, _, _, rfl, rfl, rfl, .str y.1, rfl, .ref rr, rfl, .ref b, rfl, sz1000 (by decide : (1 : Nat) ≤ 1000), fun o7 no7 => ?_⟩
      generalize h7 : upd _ o7 _ = H7
      obtain ⟨s7, e7⟩ := new_of h7 no7
      obtain ⟨w2, hr1, hr2⟩ := hrr
      have l2 := rows_len hr2
      have ly := M.lh y my
      refine ⟨rr, o7, _, _, rfl, rfl, Same.tup s7 hr1, .inl (.inl e7), sz1000 (by simp only [List.length_cons, List.length_nil]; omega), fun z8 H8 s8 h8 => ?_⟩
      refine ⟨sz1000 (by decide : (2 : Nat) ≤ 1000), fun z9 nz9 => ?_⟩
      generalize h9 : upd H8 z9 _ = H9
      obtain ⟨s9, e9⟩ := new_of h9 nz9
      have s79 := s7.trans (s8.trans s9)
      have eD9 := s79 _ _ eD
      have hi : i < m.hands.length := (List.getElem?_eq_some_iff.mp gy).1
      have tk := (Tk.refl H9).mut eD9 (ys := ws ++ [.ref z9])
      refine ⟨ws, eD9, small1000 (by omega), same_mut (s6.trans s79) nD, ws ++ [.ref z9], upd_same, by rw [List.length_append, lw]; rfl, ?_⟩
      have gr : (callM m r).hands[i]? = some (y.1, y.2 ++ [r]) := by
        unfold callM
        rw [List.getElem?_map, gy]
        rfl
      rw [List.take_add_one, gr, List.map_append]
      refine dpAll_append (dpAll_tk tk _ _ (noL_hands _) (dpAll_same s79 _ _ dl)) (.cons (.tup (tk _ _ _ (.inl (.inl e9))) (.cons (.str _) (.cons (.tup (tk _ _ _ (Same.tup s9 h8)) ?_) .nil))) .nil)
      rw [List.map_append]
      exact dpAll_append (dpAll_tk tk _ _ (noL_rows _) (dpAll_same s79 _ _ hr2)) (.cons (row_dp (tk _ _ _ (Same.tup (s16.trans s79) hb))) .nil)
    · obtain ⟨s6, ws, eD, lw, dl⟩ := hP
      have lr2 : (callM m r).hands.length = m.hands.length := by unfold callM; rw [List.length_map]
      rw [List.take_of_length_le (by omega)] at dl
      refine ⟨D, _, rfl, .inl ⟨.inl (.inl eD), fun t nt => ?_⟩⟩
      generalize h7 : upd H6 t _ = H7
      obtain ⟨s7, e7⟩ := new_of h7 nt
      have s17 := s15.trans (s6.trans s7)
      refine ⟨.ref a, rfl, a, _, dx, _, _, rfl, F1 s17, T.k_Moment.cl, T.na_Moment_p, momF_p, .ref a, rfl, a, _, dx, _, _, rfl, F1 s17, T.k_Moment.cl, T.na_Moment_n, momF_n, ?_⟩
      refine ⟨.ref a, rfl, a, _, dx, _, _, rfl, F1 s17, T.k_Moment.cl, T.na_Moment_called, momF_called, .ref b, rfl, sz1000 (by decide : (1 : Nat) ≤ 1000), fun o8 no8 => ?_⟩
      generalize h8 : upd H7 o8 _ = H8
      obtain ⟨s8, e8⟩ := new_of h8 no8
      obtain ⟨wc, hwc, dwc⟩ := hc
      have lwc := rows_len dwc
      have lc := M.lc
      have s18 := s17.trans s8
      refine ⟨c, o8, _, _, rfl, rfl, Same.tup s18 hwc, .inl (.inl e8), sz1000 (by simp only [List.length_cons, List.length_nil]; omega), fun z9 H9 s9 h9 => ?_⟩
      have s19 := s18.trans s9
      refine ⟨.ref t, rfl, made_mom (m' := callM m r) ⟨_, h9, ?_⟩ (.tup (.inl (.inl ((s8.trans s9) _ _ e7))) (dpAll_same (s7.trans (s8.trans s9)) _ _ dl)) fun H' a' s' at' => q H' a' (s19.trans s') at'⟩
      show DpAll K H9 _ ((m.called ++ [r]).map rowD)
      rw [List.map_append]
      exact dpAll_append (dpAll_same s19 _ _ dwc) (.cons (row_dp (Same.tup s19 hb)) .nil)
def sp_after_whisper (K : PySem.W.Frag) (mg : Str → Option Value) : Sp := fun vs H Q _ => ∃ (a b c : Addr) (ns : List Str) (r : List Int) (m : Mom), vs = [.ref a, .ref c, .ref b] ∧ MomAt K mg H a m ∧ MomOk 900 m ∧ SqT K H b (r.map V.int) ∧ RowsOk m.p m.n [r] ∧ SqT K H c (ns.map V.str) ∧ ns.Pairwise sl ∧ 1 ≤ ns.length ∧ ns.length ≤ 100 ∧ (∀ x ∈ ns, x ∈ m.hands.map Prod.fst) ∧
  ∀ H' a', Same H H' → MomAt K mg H' a' (whisperM m ns r) → Q (.ref a') H'
theorem ok_after_whisper (T : Top K mg) : Ok P w K mg base 7 "after_whisper" ["moment", "hands", "row"] (sp_after_whisper K mg) := by
  have O_check_hands := ok_check_hands (P := P) (w := w) (base := base) T
  have O_names_at := ok_names_at (P := P) (w := w) (base := base) T
  have O_check_row := ok_check_rowB (P := P) (w := w) (base := base) T
  have O_Moment___init__ := ok_Moment___init__ (P := P) (w := w) (base := base) T
  refine T.d_after_whisper.ok sc_after_whisper (fun vs H Q E h => ?_) (fun f cdv A outer s H vs Q E hr h => ?_)
  · obtain ⟨a, b, c, ns, r, m, rfl, _⟩ := h
    rfl
  · obtain ⟨a, b, cn, ns, r, m, rfl, ma, M, hb, ok, hn, srt, n1, n100, inn, q⟩ := h
    obtain ⟨dx, c, h, ea, hc, hh⟩ := id ma
    refine ⟨_, ((pss_cons (ps_expr (pe_callO O_check_hands (hr.mono (by omega)) (by rfl) (pa_cons (pe_callO O_names_at (hr.mono (by omega)) (by rfl) (pa_cons (pv 0) pa_nil)) (pa_cons (pv 1) (pa_cons pe_int pa_nil)))))
      (pss_cons (ps_expr (pe_callO O_check_row (hr.mono (by omega)) (by rfl) (pa_cons (pe_fld (pv 0) (by rfl)) (pa_cons (pe_fld (pv 0) (by rfl)) (pa_cons (pv 2) pa_nil)))))
      (pss_cons (ps_setLc (i := 5) (own := [("name", 3), ("rows", 4)]) (g := gTup K 2 (gCons (gName 3) (gCons (gName 4) gNil))) (by rfl) sc_after_whisper.nd rfl rfl (sw_true rfl rfl rfl (by decide +kernel)) (pi_tup (pe_fld (pv 0) (by rfl))) (blkOk_by (own := [("name", 3), ("rows", 4)]) (N := N_after_whisper) (sc := defScope s_after_whisper) (by decide +kernel)) (fun _ _ _ _ _ => (pg_tup (by rfl) (pgs_cons (pg_name (i := 3) sc_after_whisper.nd rfl (.inl rfl)) (pgs_cons (pg_name (i := 4) sc_after_whisper.nd rfl (.inl rfl)) pgs_nil)))) (fun _ _ _ _ _ => pts_nil) (fun _ _ _ _ _ => (pe_tup (pa_cons (pv 3) (pa_cons (pe_ifExp (pt_cmpR (show OpR _ (compareOp .In) (rIn K false) from op_in_seq) (pv 3) (pv 1) (by rfl)) (pe_op (show OpR _ (binaryOp .Add) (rCatB K) from op_catB) (pv 4) (pe_tup (pa_cons (pv 2) pa_nil))) (pv 4)) pa_nil)))))
      (pss_one (ps_ret (pe_makeO O_Moment___init__ T.k_Moment (hr.mono (by omega)) (by rfl) (pa_cons (pe_fld (pv 0) (by rfl)) (pa_cons (pe_fld (pv 0) (by rfl)) (pa_cons (pe_fld (pv 0) (by rfl)) (pa_cons (pe_callTy call_tuple_of (by rfl) T.b_tuple (by decide +kernel) (pa_cons (pv 5) pa_nil)) pa_nil))))))))))), ?_⟩
    have many := M.many
    have n8 := M.n8
    have F1 : ∀ {H' : Hp}, Same H H' → H' a = some (.ins (adr mg "Moment") dx (momF m.p m.n c h)) := fun s => s _ _ ea
    refine ⟨.ref a, rfl, a, m, rfl, ma, by omega, fun H1 l1 s1 h1 => ?_⟩
    refine ⟨.ref cn, rfl, l1, cn, _, ns, 1, rfl, h1, Same.tup s1 hn, fun x hx => M.nm x (inn x hx), srt, n100, by omega, inn, fun H1' s1' => ?_⟩
    have s11 := s1.trans s1'
    refine ⟨.ref a, rfl, a, _, dx, _, _, rfl, F1 s11, T.k_Moment.cl, T.na_Moment_p, momF_p, .ref a, rfl, a, _, dx, _, _, rfl, F1 s11, T.k_Moment.cl, T.na_Moment_n, momF_n, .ref b, rfl, ?_⟩
    have lr := (ok r List.mem_cons_self).1
    refine ⟨b, r, m.p, m.n, rfl, Same.tup s11 hb, ok, by omega, fun H5 s5 => ?_⟩
    have s15 := s11.trans s5
    obtain ⟨wg, hg, dg, lg⟩ := mom_hands hh
    refine ⟨.ref a, rfl, a, _, dx, _, _, rfl, F1 s15, T.k_Moment.cl, T.na_Moment_hands, momF_hands, h, rfl, ⟨_, Same.tup s15 hg⟩, fun D nD => lc_it (walk_tup (K := K) (a := h) (xs := wg)) (fun i H' => Same H5 H' ∧ ∃ ws : List V, H' D = some (.lst ws) ∧ ws.length = i ∧ DpAll K H' ws (((whisperM m ns r).hands.take i).map handD)) ⟨same_upd nD, [], upd_same, rfl, .nil⟩ (fun i H' _ hP => Same.tup (s15.trans hP.1) hg) (fun i v Ha Hb hi hP hY => ?_) (fun H6 hP => ?_)⟩
    · obtain ⟨rfl, hx⟩ := hY
      obtain ⟨s6, ws, eD, lw, dl⟩ := hP
      have s16 := s15.trans s6
      obtain ⟨c', rr, y, rfl, gy, my, hc', hrr⟩ := dpAll_hand (dpAll_same s16 _ _ dg) hx
      obtain ⟨w2, hr1, hr2⟩ := hrr
      have l2 := rows_len hr2
      have ly := M.lh y my
      have hi : i < m.hands.length := (List.getElem?_eq_some_iff.mp gy).1
      refine ⟨c', _, rfl, hc', rfl, _, _, rfl, _, _, rfl, rfl, rfl, .str y.1, rfl, .str y.1, rfl, .ref cn, rfl, cn, _, rfl, .inr (Same.tup s16 hn), rfl, flat_strs ns, _, rfl, ?_⟩
      rw [show (if false = true then !inV (V.str y.1) (ns.map V.str) else inV (V.str y.1) (ns.map V.str)) = decide (y.1 ∈ ns) from in_strs y.1 ns]
      -- the hand's new pair
      have fin : ∀ {H8 : Hp} (z8 : Addr) (rs : List (List Int)) (w8 : List V), (Same Hb H8) → SqT K H8 z8 w8 → DpAll K H8 w8 (rs.map rowD) → (whisperM m ns r).hands[i]? = some (y.1, rs) → ∀ {H9 : Hp} (z9 : Addr), Same H8 H9 → H9 z9 = some (.tup [.str y.1, .ref z8]) →
          ∃ acc, H9 D = some (.lst acc) ∧ acc.length < sizeLine ∧ (Same H5 (upd H9 D (.lst (acc ++ [.ref z9]))) ∧ ∃ ws : List V, (upd H9 D (.lst (acc ++ [.ref z9]))) D = some (.lst ws) ∧ ws.length = i + 1 ∧ DpAll K (upd H9 D (.lst (acc ++ [.ref z9]))) ws (((whisperM m ns r).hands.take (i + 1)).map handD)) := fun {H8} z8 rs w8 s8 h8 d8 gr {H9} z9 s9 e9 => by
        have s79 := s8.trans s9
        have eD9 := s79 _ _ eD
        have tk := (Tk.refl H9).mut eD9 (ys := ws ++ [.ref z9])
        refine ⟨ws, eD9, small1000 (by omega), same_mut (s6.trans s79) nD, ws ++ [.ref z9], upd_same, by rw [List.length_append, lw]; rfl, ?_⟩
        rw [List.take_add_one, gr, List.map_append]
        exact dpAll_append (dpAll_tk tk _ _ (noL_hands _) (dpAll_same s79 _ _ dl)) (.cons (.tup (tk _ _ _ (.inl (.inl e9))) (.cons (.str _) (.cons (.tup (tk _ _ _ (Same.tup s9 h8)) (dpAll_tk tk _ _ (noL_rows _) (dpAll_same s9 _ _ d8))) .nil))) .nil)
      have gr : (whisperM m ns r).hands[i]? = some (if y.1 ∈ ns then (y.1, y.2 ++ [r]) else y) := by
        unfold whisperM
        rw [List.getElem?_map, gy]
        rfl
      by_cases hm : y.1 ∈ ns
      · rw [if_pos hm] at gr
        rw [decide_eq_true hm]
        refine iteT ⟨.ref rr, rfl, .ref b, rfl, sz1000 (by decide : (1 : Nat) ≤ 1000), fun o7 no7 => ?_⟩
        generalize h7 : upd _ o7 _ = H7
        obtain ⟨s7, e7⟩ := new_of h7 no7
        refine ⟨rr, o7, _, _, rfl, rfl, Same.tup s7 hr1, .inl (.inl e7), sz1000 (by simp only [List.length_cons, List.length_nil]; omega), fun z8 H8 s8 h8 => ?_⟩
        refine ⟨sz1000 (by decide : (2 : Nat) ≤ 1000), fun z9 nz9 => ?_⟩
        generalize h9 : upd H8 z9 _ = H9
        obtain ⟨s9, e9⟩ := new_of h9 nz9
        refine fin z8 (y.2 ++ [r]) _ (s7.trans s8) h8 ?_ gr z9 s9 e9
        rw [List.map_append]
        exact dpAll_append (dpAll_same (s7.trans s8) _ _ hr2) (.cons (row_dp (Same.tup (s16.trans (s7.trans s8)) hb)) .nil)
      · rw [if_neg hm] at gr
        rw [decide_eq_false hm]
        refine iteF ⟨.ref rr, rfl, sz1000 (by decide : (2 : Nat) ≤ 1000), fun z9 nz9 => ?_⟩
        generalize h9 : upd _ z9 _ = H9
        obtain ⟨s9, e9⟩ := new_of h9 nz9
        exact fin rr y.2 _ (Same.refl _) hr1 hr2 gr z9 s9 e9
    · obtain ⟨s6, ws, eD, lw, dl⟩ := hP
      have lr2 : (whisperM m ns r).hands.length = m.hands.length := by unfold whisperM; rw [List.length_map]
      rw [List.take_of_length_le (by omega)] at dl
      have s17 := s15.trans s6
      refine ⟨.ref a, rfl, a, _, dx, _, _, rfl, F1 s17, T.k_Moment.cl, T.na_Moment_p, momF_p, .ref a, rfl, a, _, dx, _, _, rfl, F1 s17, T.k_Moment.cl, T.na_Moment_n, momF_n, ?_⟩
      refine ⟨.ref a, rfl, a, _, dx, _, _, rfl, F1 s17, T.k_Moment.cl, T.na_Moment_called, momF_called, .ref D, rfl, D, _, rfl, .inl ⟨.inl (.inl eD), fun t nt => ?_⟩⟩
      generalize h7 : upd H6 t _ = H7
      obtain ⟨s7, e7⟩ := new_of h7 nt
      exact made_mom (m' := whisperM m ns r) (RowsAt.same (s17.trans s7) hc) (.tup (.inl (.inl e7)) (dpAll_same s7 _ _ dl)) fun H' a' s' at' => q H' a' (s17.trans (s7.trans s')) at'
/-- the steps, by their words -/
structure StepsW (w : World) (K : PySem.W.Frag) (mg : Str → Option Value) : Prop where
  g_STEPS : mg "STEPS" = some (.ref (adr mg "STEPS"))
  at_ : ∀ x f : Str, (x, f) ∈ ([("call", "after_call"), ("whisper", "after_whisper")] : List (Str × Str)) → KDct K w (adr mg "STEPS") x (.ref (adr mg f))
def sp_after (K : PySem.W.Frag) (S : Str → Sp → Prop) : Sp := fun vs H Q _ => ∃ (a t : Addr) (x : Str) (xs : List V) (sp : Sp), vs = [.ref a, .ref t] ∧ SqT K H t (.str x :: xs) ∧ S x sp ∧ ∀ H', Same H H' → sp (.ref a :: xs) H' Q E0
theorem ok_after (T : Top K mg) (W : StepsW w K mg) {S : Str → Sp → Prop} (hS : ∀ x sp, S x sp → ∃ f, KDct K w (adr mg "STEPS") x (.ref f) ∧ HeldR P w K mg base 9 f sp) : Ok P w K mg base 10 "after" ["moment", "deed"] (sp_after K S) := by
  refine T.d_after.ok sc_after (fun vs H Q E h => ?_) (fun f cdv A outer s H vs Q E hr h => ?_)
  · obtain ⟨a, t, x, xs, sp, rfl, _⟩ := h
    rfl
  · obtain ⟨a, t, x, xs, sp, rfl, ht, hs, q⟩ := h
    refine ⟨_, ((pss_cons (ps_set (i := 2) sc_after.nd rfl (.inl rfl) (pe_ix ix_kdict (pe_glob (v := .ref _) (by rfl) W.g_STEPS rfl) (pe_ix ix_tup (pv 1) pe_int (fun _ _ => rfl)) (fun _ _ => rfl)))
      (pss_cons (ps_set (i := 3) sc_after.nd rfl (.inl rfl) (pe_slice sl_tupB (pv 1) (po_some pe_int) po_none))
      (pss_one (ps_ret (pe_callLS (k := 9) (hr.mono (by omega)) (i := 2) (by rfl) (.inl rfl) (pa_cons (pv 0) (StX.pa_star (pv 3) pa_nil)))))))), ?_⟩
    obtain ⟨f, kd, hf⟩ := hS x sp hs
    refine ⟨.ref t, rfl, t, _, 0, .str x, rfl, rfl, ht, atI_nat (j := 0) rfl, adr mg "STEPS", x, .ref f, rfl, rfl, kd, ?_⟩
    refine ⟨.ref t, rfl, 1, rfl, t, _, rfl, ht, fun b2 H2 s2 h2 => ?_⟩
    rw [cut1] at h2
    exact ⟨f, sp, rfl, hf, .ref a, rfl, .ref b2, rfl, b2, xs, rfl, .inl h2, by
      have z := q H2 s2
      show sp (.ref a :: (xs ++ [])) H2 _ E0
      rw [List.append_nil]
      exact z⟩
def sp_now (K : PySem.W.Frag) (mg : Str → Option Value) : Sp := fun vs H Q _ => ∃ (b : Addr) (q : BookS), vs = [.ref b] ∧ BookAt K mg H b q ∧ ∀ a m, q.moms[q.moms.length - 1]? = some m → MomAt K mg H a m → Q (.ref a) H
theorem atI_last {ws : List V} {v : V} (g : ws[ws.length - 1]? = some v) (h : 0 < ws.length) : atI ws (-1) = some v := by
  unfold atI ixN
  rw [if_neg (by decide), if_pos (by omega)]
  show ws[((-1 : Int) + (ws.length : Int)).toNat]? = some v
  rw [show ((-1 : Int) + (ws.length : Int)).toNat = ws.length - 1 by omega]
  exact g
theorem last_mom {H : Hp} {vs : List V} {q : BookS} (h2 : MomsAt K mg H vs q.moms) (l : q.moms.length = q.deeds.length + 1) : ∃ a m, q.moms[q.moms.length - 1]? = some m ∧ atI vs (-1) = some (.ref a) ∧ MomAt K mg H a m := by
  have g : q.moms[q.moms.length - 1]? = some (q.moms[q.moms.length - 1]'(by omega)) := List.getElem?_eq_getElem (by omega)
  obtain ⟨a, ga, ha⟩ := h2.get g
  have lv := h2.len
  exact ⟨a, _, g, atI_last (by rw [lv]; exact ga) (by omega), ha⟩
theorem ok_Book_now (T : Top K mg) : OkM P w K mg base 1 "Book" "now" ["self"] [] (sp_now K mg) := by
  refine T.d_Book_now.ok sc_Book_now (fun vs H Q E h => ?_) (fun f cdv A outer s H vs Q E hr h => ?_)
  · obtain ⟨b, q, rfl, _⟩ := h
    rfl
  · obtain ⟨b, q, rfl, ⟨⟨dx, w', t, u, v, ws, eb, h1, h2, h3, h4, h5⟩, nd, len⟩, k⟩ := h
    refine ⟨_, ((pss_one (ps_ret (pe_ix ix_tup (pe_fld (pv 0) (by rfl)) (pe_un un_neg pe_int) (fun _ _ => rfl))))), ?_⟩
    obtain ⟨a, m, g, ha, hm⟩ := last_mom h2 len
    exact ⟨.ref b, rfl, b, _, dx, _, _, rfl, eb, T.k_Book.cl, T.na_Book_moments, bookF_moments, 1, rfl, t, _, -1, .ref a, rfl, rfl, h1, ha, k a m g hm⟩
def sp_amid (K : PySem.W.Frag) (mg : Str → Option Value) : Sp := fun vs H Q _ => ∃ (b : Addr) (q : BookS), vs = [.ref b] ∧ BookAt K mg H b q ∧ q.amid = false ∧ Q .non H
theorem ok_Book_refuse_amid (T : Top K mg) : OkM P w K mg base 1 "Book" "refuse_amid" ["self"] [] (sp_amid K mg) := by
  refine T.d_Book_refuse_amid.ok sc_Book_refuse_amid (fun vs H Q E h => ?_) (fun f cdv A outer s H vs Q E hr h => ?_)
  · obtain ⟨b, q, rfl, _⟩ := h
    rfl
  · obtain ⟨b, q, rfl, ⟨⟨dx, w', t, u, v, ws, eb, h1, h2, h3, h4, h5⟩, nd, len⟩, am, k⟩ := h
    refine ⟨_, ((pss_one (ps_if (pt_val (pe_fld (pv 0) (by rfl)))
        (pss_one ps_dead)
        pss_nil))), ?_⟩
    rw [am] at eb
    exact ⟨.ref b, rfl, b, _, dx, _, _, rfl, eb, T.k_Book.cl, T.na_Book_amid, bookF_amid, false, rfl, iteF k⟩
theorem deeds_of {H : Hp} {u : Addr} {ds : List Deed} (h : Dp K H (.ref u) (.tuple (ds.map deedD))) : ∃ wu, SqT K H u wu ∧ DpAll K H wu (ds.map deedD) ∧ wu.length = ds.length := by
  cases h with
  | tup a b =>
    have := dpAll_len b
    rw [List.length_map] at this
    exact ⟨_, a, b, this⟩
def sp_blen (K : PySem.W.Frag) (mg : Str → Option Value) : Sp := fun vs H Q _ => ∃ (b : Addr) (q : BookS), vs = [.ref b] ∧ BookAt K mg H b q ∧ Q (.int (q.deeds.length : Nat)) H
theorem ok_Book___len__ (T : Top K mg) : OkM P w K mg base 1 "Book" "__len__" ["self"] [] (sp_blen K mg) := by
  refine T.d_Book___len__.ok sc_Book___len__ (fun vs H Q E h => ?_) (fun f cdv A outer s H vs Q E hr h => ?_)
  · obtain ⟨b, q, rfl, _⟩ := h
    rfl
  · obtain ⟨b, q, rfl, ⟨⟨dx, w', t, u, v, ws, eb, h1, h2, h3, h4, h5⟩, nd, len⟩, k⟩ := h
    refine ⟨_, ((pss_one (ps_ret (pe_callB call_len_seq (by rfl) T.b_len (by decide +kernel) (pa_cons (pe_fld (pv 0) (by rfl)) pa_nil))))), ?_⟩
    obtain ⟨wu, hu, du, lu⟩ := deeds_of h3
    refine ⟨.ref b, rfl, b, _, dx, _, _, rfl, eb, T.k_Book.cl, T.na_Book_done, bookF_done, u, _, rfl, .inr hu, ?_⟩
    rw [lu]
    exact k
/-- what is asked of a book -/
structure BookOk (B : Nat) (q : BookS) : Prop where
  ok : ∀ m ∈ q.moms, MomOk B m
  row : ∀ (i : Nat) (x : Str) (r : List Int) (m : Mom), q.deeds[i]? = some (Deed.call x r) → q.moms[i]? = some m → RowsOk m.p m.n [r]
  few : q.deeds.length ≤ 60
theorem xc_upd {H : Hp} {b : Addr} {o : HO} : Xc b H (upd H b o) := fun a o' h n => by rw [upd_ne n]; exact h
def sp_book (K : PySem.W.Frag) (mg : Str → Option Value) : Sp := fun vs H Q _ => ∃ (b dx h : Addr) (p : Int) (n : Nat) (hs : List (Str × List (List Int))), vs = [.ref b, .int p, .int (n : Int), .ref h] ∧ H b = some (.ins (adr mg "Book") dx []) ∧ Dp K H (.ref h) (.tuple (hs.map handD)) ∧
  ∀ H', Xc b H H' → BookAt K mg H' b ⟨.tuple [.int p, .int (n : Int), .tuple (hs.map handD)], [⟨p, n, [], hs⟩], [], [], false⟩ → Q .non H'
theorem ok_Book___init__ (T : Top K mg) : OkM P w K mg base 3 "Book" "__init__" ["self", "p", "n", "hands"] [] (sp_book K mg) := by
  have O_Moment___init__ := ok_Moment___init__ (P := P) (w := w) (base := base) T
  refine T.d_Book___init__.ok sc_Book___init__ (fun vs H Q E h => ?_) (fun f cdv A outer s H vs Q E hr h => ?_)
  · obtain ⟨b, dx, h, p, n, hs, rfl, _⟩ := h
    rfl
  · obtain ⟨b, dx, h, p, n, hs, rfl, hb, dh, q⟩ := h
    refine ⟨_, ((pss_cons (ps_fld (pv 0) (pe_tup (pa_cons (pv 1) (pa_cons (pv 2) (pa_cons (pv 3) pa_nil)))) (by rfl))
      (pss_cons (ps_fld (pv 0) (pe_tup (pa_cons (pe_makeO O_Moment___init__ T.k_Moment (hr.mono (by omega)) (by rfl) (pa_cons (pv 1) (pa_cons (pv 2) (pa_cons (pe_tup pa_nil) (pa_cons (pv 3) pa_nil))))) pa_nil)) (by rfl))
      (pss_cons (ps_fld (pv 0) (pe_tup pa_nil) (by rfl))
      (pss_cons (ps_fld (pv 0) (pe_tup pa_nil) (by rfl))
      (pss_one (ps_fld (pv 0) pe_bl (by rfl)))))))), ?_⟩
    refine ⟨.int p, rfl, .int (n : Int), rfl, .ref h, rfl, sz1000 (by decide : (3 : Nat) ≤ 1000), fun z1 nz1 => ?_⟩
    generalize h1 : upd H z1 _ = H1
    obtain ⟨s1, e1⟩ := new_of h1 nz1
    refine ⟨.ref b, rfl, b, _, dx, _, rfl, s1 _ _ hb, T.k_Book.cl, T.na_Book_made, by decide, ?_⟩
    have x1 : Xc b H1 (upd H1 b (.ins (adr mg "Book") dx (putF "made" (.ref z1) []))) := xc_upd
    have b1 := s1 _ _ hb
    have b2 : (upd H1 b (.ins (adr mg "Book") dx (putF "made" (.ref z1) []))) b = some (.ins (adr mg "Book") dx (putF "made" (.ref z1) [])) := upd_same
    generalize upd H1 b _ = H2 at x1 b2 ⊢
    refine ⟨.int p, rfl, .int (n : Int), rfl, Nat.zero_le _, fun z2 nz2 => ?_⟩
    generalize h3 : upd H2 z2 _ = H3
    obtain ⟨s3, e3⟩ := new_of h3 nz2
    have m1 : Mv mg H1 H3 := (x1.trans (Xc.of s3)).mvI b1 rfl
    refine ⟨.ref h, rfl, fun a da na nda ne => ⟨a, da, z2, h, p, n, rfl, upd_same, fun H4 k4 f4 => ⟨rfl, ?_⟩⟩⟩
    obtain ⟨s4, at4⟩ := mom_made (m := ⟨p, n, [], hs⟩) na nda ⟨[], .inl (.inl e3), .nil⟩ (dp_tk m1.tk _ _ (noL_handsT _) (dp_same s1 _ _ dh)) k4 f4
    refine ⟨sz1000 (by decide : (1 : Nat) ≤ 1000), fun z5 nz5 => ?_⟩
    generalize h5 : upd H4 z5 _ = H5
    obtain ⟨s5, e5⟩ := new_of h5 nz5
    have b5 := (s3.trans (s4.trans s5)) _ _ b2
    have x5 : Xc b H1 H5 := x1.trans (Xc.of (s3.trans (s4.trans s5)))
    refine ⟨.ref b, rfl, b, _, dx, _, rfl, b5, T.k_Book.cl, T.na_Book_moments, lp1, ?_⟩
    have np1 : (putF "made" (.ref z1) ([] : List (Str × V))).lookup ("p" : Str) = none := by rw [lookup_putF, if_neg (by decide +kernel)]; rfl
    have x6 : Xc b H5 (upd H5 b (.ins (adr mg "Book") dx (putF "moments" (.ref z5) (putF "made" (.ref z1) [])))) := xc_upd
    have b6 : (upd H5 b (.ins (adr mg "Book") dx (putF "moments" (.ref z5) (putF "made" (.ref z1) [])))) b = some (.ins (adr mg "Book") dx (putF "moments" (.ref z5) (putF "made" (.ref z1) []))) := upd_same
    generalize upd H5 b _ = H6 at x6 b6 ⊢
    refine ⟨Nat.zero_le _, fun z7 nz7 => ?_⟩
    generalize h7 : upd H6 z7 _ = H7
    obtain ⟨s7, e7⟩ := new_of h7 nz7
    have b7 := s7 _ _ b6
    refine ⟨.ref b, rfl, b, _, dx, _, rfl, b7, T.k_Book.cl, T.na_Book_done, lp2, ?_⟩
    have np2 : (putF "moments" (.ref z5) (putF "made" (.ref z1) ([] : List (Str × V)))).lookup ("p" : Str) = none := by rw [lookup_putF, if_neg (by decide +kernel)]; exact np1
    have x8 : Xc b H7 (upd H7 b (.ins (adr mg "Book") dx (putF "done" (.ref z7) (putF "moments" (.ref z5) (putF "made" (.ref z1) []))))) := xc_upd
    have b8 : (upd H7 b (.ins (adr mg "Book") dx (putF "done" (.ref z7) (putF "moments" (.ref z5) (putF "made" (.ref z1) []))))) b = some (.ins (adr mg "Book") dx (putF "done" (.ref z7) (putF "moments" (.ref z5) (putF "made" (.ref z1) [])))) := upd_same
    generalize upd H7 b _ = H8 at x8 b8 ⊢
    refine ⟨Nat.zero_le _, fun z9 nz9 => ?_⟩
    generalize h9 : upd H8 z9 _ = H9
    obtain ⟨s9, e9⟩ := new_of h9 nz9
    have b9 := s9 _ _ b8
    refine ⟨.ref b, rfl, b, _, dx, _, rfl, b9, T.k_Book.cl, T.na_Book_trials, lp3, ?_⟩
    have np3 : (putF "done" (.ref z7) (putF "moments" (.ref z5) (putF "made" (.ref z1) ([] : List (Str × V))))).lookup ("p" : Str) = none := by rw [lookup_putF, if_neg (by decide +kernel)]; exact np2
    refine ⟨.ref b, rfl, b, _, dx, _, rfl, upd_same, T.k_Book.cl, T.na_Book_amid, lp4, ?_⟩
    generalize he : upd (upd H9 b _) b _ = He
    have xe : Xc b H9 He := by rw [← he]; exact xc_upd.trans xc_upd
    have be : He b = some (.ins (adr mg "Book") dx (bookF z1 z5 z7 z9 false)) := by rw [← he]; exact upd_same
    have x78 := x8.trans ((Xc.of s9).trans xe)
    have x58 := x6.trans ((Xc.of s7).trans x78)
    have x18 := x5.trans x58
    have m18 : Mv mg H1 He := x18.mvI b1 rfl
    have m58 : Mv mg H5 He := x58.mvI b5 np1
    have m78 : Mv mg H7 He := x78.mvI b7 np2
    have m98 : Mv mg H9 He := xe.mvI b9 np3
    refine q He ((Xc.of s1).trans x18) ⟨⟨dx, z1, z5, z7, z9, [.ref a], be, m58.tk _ _ _ (.inl (.inl e5)), ⟨⟨a, rfl, (at4.same s5).mv m58⟩, trivial⟩, ?_, ?_, ?_⟩, ⟨?_, rfl⟩, rfl⟩
    · exact .tup (m78.tk _ _ _ (.inl (.inl e7))) .nil
    · exact .tup (m18.tk _ _ _ (.inl (.inl e1))) (.cons (.int p) (.cons (.int n) (.cons (dp_tk m18.tk _ _ (noL_handsT _) (dp_same s1 _ _ dh)) .nil)))
    · exact .tup (m98.tk _ _ _ (.inl (.inl e9))) .nil
    · show noL (.tuple [.int p, .int (n : Int), .tuple (hs.map handD)]) = true
      have := noL_hands hs
      simp only [noL, noLAll, this, Bool.and_true]
def sp_perform (K : PySem.W.Frag) (mg : Str → Option Value) (S : Str → Sp → Prop) : Sp := fun vs H Q _ => ∃ (b t : Addr) (q : BookS) (d : Deed) (x : Str) (xs : List V) (sp : Sp) (m m' : Mom), vs = [.ref b, .ref t] ∧ BookAt K mg H b q ∧ q.deeds.length < 60 ∧ SqT K H t (.str x :: xs) ∧ S x sp ∧ Dp K H (.ref t) (deedD d) ∧ q.moms[q.moms.length - 1]? = some m ∧
  (∀ a H' Q', Same H H' → MomAt K mg H' a m → (∀ H2 a', Same H' H2 → MomAt K mg H2 a' m' → Q' (.ref a') H2) → sp (.ref a :: xs) H' Q' E0) ∧ ∀ H', Xc b H H' → BookAt K mg H' b (q.push m' d) → Q .non H'
theorem ok_Book_perform (T : Top K mg) (W : StepsW w K mg) {S : Str → Sp → Prop} (hS : ∀ x sp, S x sp → ∃ f, KDct K w (adr mg "STEPS") x (.ref f) ∧ HeldR P w K mg base 9 f sp) : OkM P w K mg base 11 "Book" "perform" ["self", "deed"] [] (sp_perform K mg S) := by
  have O_Book_now := ok_Book_now (P := P) (w := w) (base := base) T
  have O_after := ok_after (P := P) (w := w) (base := base) T W hS
  refine T.d_Book_perform.ok sc_Book_perform (fun vs H Q E h => ?_) (fun f cdv A outer s H vs Q E hr h => ?_)
  · obtain ⟨b, t, q, d, x, xs, sp, m, m', rfl, _⟩ := h
    rfl
  · obtain ⟨b, t, q, d, x, xs, sp, m, m', rfl, B, few, ht, hs, dt, gm, hsp, k⟩ := h
    obtain ⟨⟨dx, w', t', u, v', ws, eb, h1, h2, h3, h4, h5⟩, nd, len⟩ := id B
    obtain ⟨wu, hu, du, lu⟩ := deeds_of h3
    refine ⟨_, ((pss_cons (ps_if (pt_cmpR op_ge (pe_callB call_len_seq (by rfl) T.b_len (by decide +kernel) (pa_cons (pe_fld (pv 0) (by rfl)) pa_nil)) (pe_cint T.c_DEEDS (by rfl)) (nomark _))
        (pss_one ps_dead)
        pss_nil)
      (pss_cons (ps_set (i := 2) sc_Book_perform.nd rfl (.inl rfl) (pe_callO O_after (hr.mono (by omega)) (by rfl) (pa_cons (pe_methO0 O_Book_now T.k_Book (hr.mono (by omega)) (pv 0)) (pa_cons (pv 1) pa_nil))))
      (pss_cons (ps_fld (pv 0) (pe_op op_catB (pe_fld (pv 0) (by rfl)) (pe_tup (pa_cons (pv 2) pa_nil))) (by rfl))
      (pss_one (ps_fld (pv 0) (pe_op op_catB (pe_fld (pv 0) (by rfl)) (pe_tup (pa_cons (pv 1) pa_nil))) (by rfl))))))), ?_⟩
    have ldu : decide ((60 : Int) ≤ (wu.length : Int)) = false := decide_eq_false (by omega)
    refine ⟨.ref b, rfl, b, _, dx, _, _, rfl, eb, T.k_Book.cl, T.na_Book_done, bookF_done, u, _, rfl, .inr hu, _, _, rfl, rfl, _, rfl, ?_⟩
    rw [ldu]
    refine iteF ?_
    refine ⟨.ref b, rfl, b, dx, _, rfl, eb, bookF_none (by decide +kernel) (by decide +kernel) (by decide +kernel) (by decide +kernel) (by decide +kernel), b, q, rfl, B, fun a ma gma hma => ?_⟩
    cases gm.symm.trans gma
    refine ⟨.ref t, rfl, a, t, x, xs, sp, rfl, ht, hs, fun H' sH => hsp a H' _ sH (hma.same sH) fun H2 a' s2 at2 => ?_⟩
    have s12 := sH.trans s2
    refine ⟨.ref b, rfl, b, _, dx, _, _, rfl, s12 _ _ eb, T.k_Book.cl, T.na_Book_moments, bookF_moments, .ref a', rfl, sz1000 (by decide : (1 : Nat) ≤ 1000), fun z3 nz3 => ?_⟩
    generalize h3' : upd H2 z3 _ = H3
    obtain ⟨s3, e3⟩ := new_of h3' nz3
    have lm := h2.len
    refine ⟨t', z3, _, _, rfl, rfl, Same.tup (s12.trans s3) h1, .inl (.inl e3), sz1000 (by simp only [List.length_cons, List.length_nil]; omega), fun z4 H4 s4 h4' => ?_⟩
    have s14 := s12.trans (s3.trans s4)
    refine ⟨.ref b, rfl, b, _, dx, _, rfl, s14 _ _ eb, T.k_Book.cl, T.na_Book_moments, by rw [bookF_len]; decide, ?_⟩
    rw [bookF_setMoments]
    have x5 : Xc b H4 (upd H4 b (.ins (adr mg "Book") dx (bookF w' z4 u v' q.amid))) := xc_upd
    have b5 : (upd H4 b (.ins (adr mg "Book") dx (bookF w' z4 u v' q.amid))) b = some (.ins (adr mg "Book") dx (bookF w' z4 u v' q.amid)) := upd_same
    generalize upd H4 b _ = H5 at x5 b5 ⊢
    have x15 : Xc b H H5 := (Xc.of s14).trans x5
    have m15 : Mv mg H H5 := x15.mv eb
    refine ⟨.ref b, rfl, b, _, dx, _, _, rfl, b5, T.k_Book.cl, T.na_Book_done, bookF_done, .ref t, rfl, sz1000 (by decide : (1 : Nat) ≤ 1000), fun z6 nz6 => ?_⟩
    generalize h6' : upd H5 z6 _ = H6
    obtain ⟨s6, e6⟩ := new_of h6' nz6
    refine ⟨u, z6, _, _, rfl, rfl, Same.tup s6 (m15.tk _ _ _ hu), .inl (.inl e6), sz1000 (by simp only [List.length_cons, List.length_nil]; omega), fun z7 H7 s7 h7' => ?_⟩
    have b7 := (s6.trans s7) _ _ b5
    refine ⟨.ref b, rfl, b, _, dx, _, rfl, b7, T.k_Book.cl, T.na_Book_done, by rw [bookF_len]; decide, ?_⟩
    rw [bookF_setDone]
    generalize he : upd H7 b _ = He
    have x7 : Xc b H7 He := by rw [← he]; exact xc_upd
    have be : He b = some (.ins (adr mg "Book") dx (bookF w' z4 z7 v' q.amid)) := by rw [← he]; exact upd_same
    have x5e := (Xc.of (s6.trans s7)).trans x7
    have xe := x15.trans x5e
    have me : Mv mg H He := xe.mv eb
    have m4e : Mv mg H4 He := (x5.trans x5e).mv (s14 _ _ eb)
    have m7e : Mv mg H7 He := x7.mv b7
    refine k He xe ⟨⟨dx, w', z4, z7, v', _, be, m4e.tk _ _ _ h4', MomsAt.append (h2.mv me) ⟨⟨a', rfl, (at2.same (s3.trans s4)).mv m4e⟩, trivial⟩, ?_, dp_tk me.tk _ _ nd.1 h4, dp_tk me.tk _ _ (noL_tup nd.2) h5⟩, nd, ?_⟩
    · refine .tup (m7e.tk _ _ _ h7') ?_
      show DpAll K He _ ((q.deeds ++ [d]).map deedD)
      rw [List.map_append]
      exact dpAll_append (dpAll_tk me.tk _ _ (noL_deeds _) du) (.cons (dp_tk me.tk _ _ (noL_deed d) dt) .nil)
    · show (q.moms ++ [m']).length = (q.deeds ++ [d]).length + 1
      rw [List.length_append, List.length_append, len]
      rfl
/-- the steps that have cards -/
def stepS (K : PySem.W.Frag) (mg : Str → Option Value) : Str → Sp → Prop := fun x sp => (x = "call" ∧ sp = sp_after_call K mg) ∨ (x = "whisper" ∧ sp = sp_after_whisper K mg)
theorem step_ok (T : Top K mg) (W : StepsW w K mg) : ∀ x sp, stepS K mg x sp → ∃ f, KDct K w (adr mg "STEPS") x (.ref f) ∧ HeldR P w K mg base 9 f sp := fun x sp h => by
  rcases h with ⟨rfl, rfl⟩ | ⟨rfl, rfl⟩
  · obtain ⟨f, g, hf⟩ := OkM.held ((ok_after_call (P := P) (w := w) (base := base) T).mono (show 7 ≤ 9 by decide))
    have := W.at_ "call" "after_call" (by decide +kernel)
    rw [adr_of g] at this
    exact ⟨f, this, hf⟩
  · obtain ⟨f, g, hf⟩ := OkM.held ((ok_after_whisper (P := P) (w := w) (base := base) T).mono (show 7 ≤ 9 by decide))
    have := W.at_ "whisper" "after_whisper" (by decide +kernel)
    rw [adr_of g] at this
    exact ⟨f, this, hf⟩
def sp_bcall (K : PySem.W.Frag) (mg : Str → Option Value) : Sp := fun vs H Q _ => ∃ (b e : Addr) (q : BookS) (x : Str) (r : List Int) (m : Mom), vs = [.ref b, .str x, .ref e] ∧ BookAt K mg H b q ∧ q.amid = false ∧ q.deeds.length < 60 ∧ q.moms[q.moms.length - 1]? = some m ∧ MomOk 900 m ∧ SqT K H e (r.map V.int) ∧ RowsOk m.p m.n [r] ∧ x ∈ m.hands.map Prod.fst ∧ hasR m.p m.n (plainR m.p m.n (heardM m [x])) r = true ∧
  ∀ H', Xc b H H' → BookAt K mg H' b (q.push (callM m r) (.call x r)) → Q .non H'
theorem ok_Book_call (T : Top K mg) (W : StepsW w K mg) : OkM P w K mg base 12 "Book" "call" ["self", "hand", "row"] [] (sp_bcall K mg) := by
  have O_Book_refuse_amid := ok_Book_refuse_amid (P := P) (w := w) (base := base) T
  have O_Book_perform := ok_Book_perform (P := P) (w := w) (base := base) T W (step_ok T W)
  refine T.d_Book_call.ok sc_Book_call (fun vs H Q E h => ?_) (fun f cdv A outer s H vs Q E hr h => ?_)
  · obtain ⟨b, e, q, x, r, m, rfl, _⟩ := h
    rfl
  · obtain ⟨b, e, q, x, r, m, rfl, B, am, few, gm, M, he, ok, mx, has, k⟩ := h
    obtain ⟨⟨dx, w', t', u, v', ws, eb, h1, h2, h3, h4, h5⟩, nd, len⟩ := id B
    refine ⟨_, ((pss_cons (ps_expr (pe_methO0 O_Book_refuse_amid T.k_Book (hr.mono (by omega)) (pv 0)))
      (pss_one (ps_expr (pe_methO O_Book_perform T.k_Book (hr.mono (by omega)) (pv 0) (pa_cons (pe_tup (pa_cons pe_str (pa_cons (pv 1) (pa_cons (pv 2) pa_nil)))) pa_nil)))))), ?_⟩
    refine ⟨.ref b, rfl, b, dx, _, rfl, eb, bookF_none (by decide +kernel) (by decide +kernel) (by decide +kernel) (by decide +kernel) (by decide +kernel), b, q, rfl, B, am, ?_⟩
    refine ⟨.ref b, rfl, b, dx, _, rfl, eb, bookF_none (by decide +kernel) (by decide +kernel) (by decide +kernel) (by decide +kernel) (by decide +kernel), .str x, rfl, .ref e, rfl, sz1000 (by decide : (3 : Nat) ≤ 1000), fun z1 nz1 => ?_⟩
    generalize h1' : upd H z1 _ = H1
    obtain ⟨s1, e1⟩ := new_of h1' nz1
    refine ⟨b, z1, q, .call x r, "call", _, _, m, callM m r, rfl, B.same s1, few, .inl (.inl e1), .inl ⟨rfl, rfl⟩, .tup (.inl (.inl e1)) (.cons (.str _) (.cons (.str x) (.cons (row_dp (Same.tup s1 he)) .nil))), gm, fun a H' Q' s' ma kk => ?_, fun H' x' B' => k H' ((Xc.of s1).trans x') B'⟩
    exact ⟨a, e, x, r, m, rfl, ma, M, Same.tup (s1.trans s') he, ok, mx, has, fun H2 a' s2 at2 => kk H2 a' s2 at2⟩
def sp_is_idle (K : PySem.W.Frag) (mg : Str → Option Value) : Sp := fun vs H Q _ => ∃ (b e : Addr) (q : BookS) (i : Nat) (d : Deed) (m : Mom), vs = [.ref b, .int (i : Int), .ref e] ∧ BookAt K mg H b q ∧ q.deeds[i]? = some d ∧ Dp K H (.ref e) (deedD d) ∧ q.moms[i]? = some m ∧ MomOk 1000 m ∧ (∀ x r, d = .call x r → RowsOk m.p m.n [r]) ∧
  ∀ H', Same H H' → Q (.bl (idleAt q i)) H'
theorem ok_Book_is_idle (T : Top K mg) : OkM P w K mg base 7 "Book" "is_idle" ["self", "number", "deed"] [] (sp_is_idle K mg) := by
  have O_known_at := ok_known_at (P := P) (w := w) (base := base) T
  have O_within := ok_within (P := P) (w := w) (base := base) T
  refine T.d_Book_is_idle.ok sc_Book_is_idle (fun vs H Q E h => ?_) (fun f cdv A outer s H vs Q E hr h => ?_)
  · obtain ⟨b, e, q, i, d, m, rfl, _⟩ := h
    rfl
  · obtain ⟨b, e, q, i, d, m, rfl, B, gd, hd, gm, M, rw', k⟩ := h
    obtain ⟨⟨dx, w', t, u, v', ws, eb, h1, h2, h3, h4, h5⟩, nd, len⟩ := id B
    refine ⟨_, ((pss_cons (ps_if (pt_cmpR op_ne (pe_ix ix_tup (pv 2) pe_int (fun _ _ => rfl)) pe_str (nomark _))
        (pss_one (ps_ret pe_bl))
        pss_nil)
      (pss_cons (ps_set (i := 3) sc_Book_is_idle.nd rfl (.inl rfl) (pe_ix ix_tup (pe_fld (pv 0) (by rfl)) (pv 1) (fun _ _ => rfl)))
      (pss_one (ps_ret (pe_callO O_within (hr.mono (by omega)) (by rfl) (pa_cons (pe_fld (pv 3) (by rfl)) (pa_cons (pe_callO O_known_at (hr.mono (by omega)) (by rfl) (pa_cons (pv 3) (pa_cons (pe_tup pa_nil) pa_nil))) (pa_cons (pe_ix ix_tup (pv 2) pe_int (fun _ _ => rfl)) pa_nil))))))))), ?_⟩
    have n8 := M.n8
    have word : ∃ (x : Str) (xs : List V), SqT K H e (.str x :: xs) ∧ ((∃ y r, d = .call y r ∧ x = "call" ∧ ∃ o, xs = [.str y, .ref o] ∧ SqT K H o (r.map V.int)) ∨ (x ≠ "call" ∧ idleAt q i = false)) := by
      have idf : (∀ y r, d ≠ .call y r) → idleAt q i = false := fun hh => by
        unfold idleAt
        rw [gd, gm]
        cases d <;> first | rfl | exact absurd rfl (hh _ _)
      cases d with
      | call y r =>
        cases hd with
        | tup a b =>
          cases b with
          | cons b1 b2 =>
            cases b1
            cases b2 with
            | cons b3 b4 =>
              cases b3
              cases b4 with
              | cons b5 b6 =>
                cases b6
                obtain ⟨o, rfl, ho⟩ := dp_row b5
                exact ⟨_, _, a, .inl ⟨y, r, rfl, rfl, o, rfl, ho⟩⟩
      | whisper ns r =>
        cases hd with
        | tup a b =>
          cases b with
          | cons b1 b2 =>
            cases b1
            exact ⟨_, _, a, .inr ⟨by decide +kernel, idf fun _ _ z => by cases z⟩⟩
      | meet ns =>
        cases hd with
        | tup a b =>
          cases b with
          | cons b1 b2 =>
            cases b1
            exact ⟨_, _, a, .inr ⟨by decide +kernel, idf fun _ _ z => by cases z⟩⟩
      | hide =>
        cases hd with
        | tup a b =>
          cases b with
          | cons b1 b2 =>
            cases b1
            exact ⟨_, _, a, .inr ⟨by decide +kernel, idf fun _ _ z => by cases z⟩⟩
      | change j r =>
        cases hd with
        | tup a b =>
          cases b with
          | cons b1 b2 =>
            cases b1
            exact ⟨_, _, a, .inr ⟨by decide +kernel, idf fun _ _ z => by cases z⟩⟩
      | come y rs =>
        cases hd with
        | tup a b =>
          cases b with
          | cons b1 b2 =>
            cases b1
            exact ⟨_, _, a, .inr ⟨by decide +kernel, idf fun _ _ z => by cases z⟩⟩
      | go y =>
        cases hd with
        | tup a b =>
          cases b with
          | cons b1 b2 =>
            cases b1
            exact ⟨_, _, a, .inr ⟨by decide +kernel, idf fun _ _ z => by cases z⟩⟩
    obtain ⟨x, xs, hx, hw⟩ := word
    refine ⟨.ref e, rfl, e, _, 0, .str x, rfl, rfl, hx, atI_nat (j := 0) rfl, rfl, _, rfl, ?_⟩
    rcases hw with ⟨y, r, rfl, rfl, o, rfl, ho⟩ | ⟨ne, id0⟩
    · refine iteNS rfl ?_
      obtain ⟨a, ga, ha⟩ := h2.get gm
      obtain ⟨dm, cm, hh, ea, hcm, hhm⟩ := id ha
      refine ⟨.ref b, rfl, b, _, dx, _, _, rfl, eb, T.k_Book.cl, T.na_Book_moments, bookF_moments, .int i, rfl, t, _, i, .ref a, rfl, rfl, h1, atI_nat ga, ?_⟩
      refine ⟨.ref a, rfl, a, _, dm, _, _, rfl, ea, T.k_Moment.cl, T.na_Moment_p, momF_p, .ref a, rfl, Nat.zero_le _, fun z nz => ?_⟩
      generalize h6 : upd H z _ = H1
      obtain ⟨s1, e1⟩ := new_of h6 nz
      refine ⟨a, z, m, [], rfl, ha.same s1, .inl (.inl e1), M, fun H2 l s2 r2 => ?_⟩
      have s12 := s1.trans s2
      refine ⟨.ref e, rfl, e, _, 2, .ref o, rfl, rfl, Same.tup s12 hx, atI_nat (j := 2) rfl, ?_⟩
      have ok := rw' y r rfl
      refine ⟨o, l, _, r, m.p, m.n, rfl, r2, Same.tup s12 ho, PFR.of_plain M.fld (heard_ok M []), ok, M.fld, by omega, M.p1, fun H3 s3 => ?_⟩
      have := k H3 (s12.trans s3)
      have ei : idleAt q i = hasR m.p m.n m.openM r := by
        unfold idleAt
        rw [gd, gm]
      rw [ei] at this
      exact this
    · have hne : ¬ (V.str x = V.str "call") := fun z => ne (by injection z)
      rw [decide_eq_false hne]
      refine iteT ?_
      have := k H (Same.refl H)
      rw [id0] at this
      exact this
def sp_idle (K : PySem.W.Frag) (mg : Str → Option Value) : Sp := fun vs H Q _ => ∃ (b : Addr) (q : BookS), vs = [.ref b] ∧ BookAt K mg H b q ∧ BookOk 1000 q ∧ ∀ H' l, Same H H' → SqT K H' l ((idleR q).map fun (i : Nat) => V.int (i : Int)) → Q (.ref l) H'
theorem ok_Book_idle (T : Top K mg) : OkM P w K mg base 8 "Book" "idle" ["self"] [] (sp_idle K mg) := by
  have O_Book_is_idle := ok_Book_is_idle (P := P) (w := w) (base := base) T
  refine T.d_Book_idle.ok sc_Book_idle (fun vs H Q E h => ?_) (fun f cdv A outer s H vs Q E hr h => ?_)
  · obtain ⟨b, q, rfl, _⟩ := h
    rfl
  · obtain ⟨b, q, rfl, B, bok, k⟩ := h
    obtain ⟨⟨dx, w', t, u, v', ws, eb, h1, h2, h3, h4, h5⟩, nd, len⟩ := id B
    obtain ⟨wu, hu, du, lu⟩ := deeds_of h3
    have few := bok.few
    refine ⟨_, ((pss_one (ps_ret (pe_callTy call_tuple_of (by rfl) T.b_tuple (by decide +kernel) (pa_cons (pe_lc (own := [("number", 1), ("deed", 2)]) (g := gTup K 2 (gCons (gName 1) (gCons (gName 2) gNil))) (by rfl) sc_Book_idle.nd (pi_enumT (by rfl) T.b_enumerate (pa_cons (pe_fld (pv 0) (by rfl)) pa_nil)) (blkOk_by (own := [("number", 1), ("deed", 2)]) (N := N_Book_idle) (sc := defScope s_Book_idle) (by decide +kernel)) (fun _ _ _ _ _ => (pg_tup (by rfl) (pgs_cons (pg_name (i := 1) sc_Book_idle.nd rfl (.inl rfl)) (pgs_cons (pg_name (i := 2) sc_Book_idle.nd rfl (.inl rfl)) pgs_nil)))) (fun _ _ _ _ _ => (pts_one (pt_val (pe_methX O_Book_is_idle T.k_Book (hr.mono (by omega)) (pv 0) (pa_cons (pv 1) (pa_cons (pv 2) pa_nil)))))) (fun _ _ _ _ _ => (pv 1))) pa_nil))))), ?_⟩
    refine ⟨.ref b, rfl, b, _, dx, _, _, rfl, eb, T.k_Book.cl, T.na_Book_done, bookF_done, u, wu, rfl, hu, fun D nD => lc_it (walk_enumT (K := K) (a := u) (xs := wu)) (fun i H' => Same H H' ∧ H' D = some (.lst (((List.range i).filter (idleAt q)).map fun (i : Nat) => V.int (i : Int)))) ⟨same_upd nD, upd_same⟩ (fun i H' _ hP => Same.tup hP.1 hu) (fun i x Ha Hb hi hP hY => ?_) (fun H3 hP => ?_)⟩
    · obtain ⟨sa, eD⟩ := hP
      obtain ⟨Ta, x1, x2, rfl, nT, rfl, g1, g2⟩ := hY
      have g1 : x1 = V.int (i : Nat) := (Option.some.inj g1).symm
      have g2 : wu[i]? = some x2 := g2
      subst g1
      obtain ⟨d', gd', _, hd'⟩ := dpAll_get (dpAll_same sa _ _ du) g2
      rw [List.getElem?_map] at gd'
      obtain ⟨d, gd, rfl⟩ := Option.map_eq_some_iff.mp gd'
      obtain ⟨e, rfl⟩ : ∃ e, x2 = .ref e := by cases d <;> cases hd' <;> exact ⟨_, rfl⟩
      have hi' : i < q.deeds.length := by omega
      obtain ⟨m, gm⟩ : ∃ m, q.moms[i]? = some m := ⟨_, List.getElem?_eq_getElem (by omega)⟩
      have M := bok.ok m (List.mem_of_getElem? gm)
      generalize hT : upd Ha Ta _ = HT
      obtain ⟨sT, eT⟩ := new_of hT nT
      have s2 := sa.trans sT
      refine ⟨Ta, [.int (i : Nat), .ref e], rfl, .inl (.inl eT), rfl, .int (i : Nat), [.ref e], rfl, .ref e, [], rfl, rfl, rfl, ?_⟩
      refine ⟨.ref b, rfl, b, dx, _, rfl, s2 _ _ eb, bookF_none (by decide +kernel) (by decide +kernel) (by decide +kernel) (by decide +kernel) (by decide +kernel), .int (i : Nat), rfl, .ref e, rfl, b, e, q, i, d, m, rfl, B.same s2, gd, dp_same sT _ _ hd', gm, M, fun x r z => bok.row i x r m (by rw [gd, z]) gm, fun H4 s4 => ⟨_, rfl, ?_⟩⟩
      have eD4 := s4 _ _ (sT _ _ eD)
      have lf := List.length_filter_le (idleAt q) (List.range i)
      rw [List.length_range] at lf
      have er : (List.range (i + 1)).filter (idleAt q) = (List.range i).filter (idleAt q) ++ (if idleAt q i = true then [i] else []) := by
        rw [List.range_succ, List.filter_append]
        cases h : idleAt q i <;> simp [List.filter, h]
      rw [er]
      cases hb : idleAt q i with
      | true =>
        refine iteT ⟨.int (i : Nat), rfl, _, eD4, small1000 (by rw [List.length_map]; omega), same_mut (s2.trans s4) nD, ?_⟩
        rw [upd_same, List.map_append]
        rfl
      | false =>
        refine iteF ⟨s2.trans s4, ?_⟩
        rw [eD4, if_neg (by decide), List.append_nil]
    · obtain ⟨s3, eD⟩ := hP
      rw [lu] at eD
      exact ⟨D, _, rfl, .inl ⟨.inl (.inl eD), fun l nl => k _ l (s3.trans (same_upd nl)) (.inl (.inl upd_same))⟩⟩
def gainL (m m' : Mom) : List (Str × Int) := ((m'.hands.map Prod.fst).map fun x => (x, ((plainR m'.p m'.n (heardM m' [x])).length : Int) - ((plainR m.p m.n (heardM m [x])).length : Int))).filter fun z => decide (z.2 > 0)
def pairD (z : Str × Int) : PyData := .tuple [.str z.1, .int z.2]
theorem noL_pairs : ∀ zs : List (Str × Int), noLAll (zs.map pairD) = true
  | [] => rfl
  | z :: zs => by
    have := noL_pairs zs
    simp only [List.map_cons, noLAll, pairD, noL, Bool.true_and]
    exact this
def sp_gained (K : PySem.W.Frag) (mg : Str → Option Value) : Sp := fun vs H Q _ => ∃ (a b : Addr) (m m' : Mom), vs = [.ref a, .ref b] ∧ MomAt K mg H a m ∧ MomAt K mg H b m' ∧ MomOk 1000 m ∧ MomOk 1000 m' ∧
  ∀ H' l, Same H H' → Dp K H' (.ref l) (.tuple ((gainL m m').map pairD)) → Q (.ref l) H'
theorem ok_gained (T : Top K mg) : Ok P w K mg base 8 "gained" ["ahead", "later"] (sp_gained K mg) := by
  have O_names_at := ok_names_at (P := P) (w := w) (base := base) T
  have O_known_at := ok_known_at (P := P) (w := w) (base := base) T
  refine T.d_gained.ok sc_gained (fun vs H Q E h => ?_) (fun f cdv A outer s H vs Q E hr h => ?_)
  · obtain ⟨a, b, m, m', rfl, _⟩ := h
    rfl
  · obtain ⟨a, b, m, m', rfl, ma, mb, M, M', k⟩ := h
    refine ⟨_, ((pss_cons (ps_set (i := 2) sc_gained.nd rfl (.inl rfl) (pe_lst pa_nil))
      (pss_cons (ps_for PassesOwn.never (by rfl) (pi_tup (pe_callO O_names_at (hr.mono (by omega)) (by rfl) (pa_cons (pv 1) pa_nil))) (pg_name (i := 3) sc_gained.nd rfl (.inl rfl))
        (pss_cons (ps_set (i := 4) sc_gained.nd rfl (.inl rfl) (pe_op op_sub (pe_callB call_len_seq (by rfl) T.b_len (by decide +kernel) (pa_cons (pe_callO O_known_at (hr.mono (by omega)) (by rfl) (pa_cons (pv 1) (pa_cons (pe_tup (pa_cons (pv 3) pa_nil)) pa_nil))) pa_nil)) (pe_callB call_len_seq (by rfl) T.b_len (by decide +kernel) (pa_cons (pe_callO O_known_at (hr.mono (by omega)) (by rfl) (pa_cons (pv 0) (pa_cons (pe_tup (pa_cons (pv 3) pa_nil)) pa_nil))) pa_nil))))
        (pss_one (ps_if (pt_cmpR op_gt (pv 4) pe_int (nomark _))
          (pss_one (ps_expr (pe_bm PySem.F.plainAttrs_list PySem.F.slot_list_append PySem.F.type_list_append mt_append (pv 2) (pa_cons (pe_tup (pa_cons (pv 3) (pa_cons (pv 4) pa_nil))) pa_nil))))
          pss_nil))))
      (pss_one (ps_ret (pe_callTy call_tuple_of (by rfl) T.b_tuple (by decide +kernel) (pa_cons (pv 2) pa_nil))))))), ?_⟩
    have many := M'.many
    refine ⟨Nat.zero_le _, fun L nL => ?_⟩
    generalize hL : upd H L _ = H0
    obtain ⟨s0, e0⟩ := new_of hL nL
    refine ⟨.ref b, rfl, b, m', rfl, mb.same s0, by omega, fun H1 l1 s1 h1 => ?_⟩
    have nms : ((m'.hands.map Prod.fst).map V.str).length = m'.hands.length := by rw [List.length_map, List.length_map]
    have L0 : SqT K H1 l1 ((m'.hands.map Prod.fst).map V.str) := h1
    generalize hnm : m'.hands.map Prod.fst = nm at L0 nms
    have lnm : nm.length = m'.hands.length := by rw [← hnm, List.length_map]
    refine ⟨l1, rfl, ⟨_, L0⟩, for_it (walk_tup (K := K) (a := l1) (xs := nm.map V.str)) (fun i σ H' => Same H H' ∧ SqT K H' l1 (nm.map V.str) ∧ (∃ ws : List V, H' L = some (.lst ws) ∧ ws.length ≤ i ∧ DpAll K H' ws ((((nm.take i).map fun x => (x, ((plainR m'.p m'.n (heardM m' [x])).length : Int) - ((plainR m.p m.n (heardM m [x])).length : Int))).filter fun z => decide (z.2 > 0)).map pairD)) ∧ ∃ y3 y4 : Option V, σ = [some (.ref a), some (.ref b), some (.ref L), y3, y4]) ⟨s0.trans s1, L0, ⟨[], s1 _ _ e0, Nat.zero_le _, by rw [List.take_zero]; exact .nil⟩, none, none, rfl⟩ (fun i σ H' _ hW => hW.2.1) (fun i v σ H2 H3 hi hW hY => ?_) (fun σ H2 hW => ?_)⟩
    · obtain ⟨rfl, hx⟩ := hY
      obtain ⟨s2, hl2, ⟨ws, eL, lw, dl⟩, y3, y4, rfl⟩ := hW
      rw [List.getElem?_map] at hx
      obtain ⟨y, gy, rfl⟩ := Option.map_eq_some_iff.mp hx
      refine ⟨.ref b, rfl, .str y, rfl, sz1000 (by decide : (1 : Nat) ≤ 1000), fun z nz => ?_⟩
      generalize h4 : upd H3 z _ = H4
      obtain ⟨s4, e4⟩ := new_of h4 nz
      have z4 : SqT K H4 z ([y].map V.str) := .inl (.inl e4)
      refine ⟨b, z, m', [y], rfl, mb.same (s2.trans s4), z4, M', fun H5 l5 s5 r5 => ?_⟩
      obtain ⟨w5, h5, d5⟩ := r5
      have lw5 := rows_len d5
      refine ⟨l5, w5, rfl, .inr h5, .ref a, rfl, .str y, rfl, sz1000 (by decide : (1 : Nat) ≤ 1000), fun z6 nz6 => ?_⟩
      generalize h6 : upd H5 z6 _ = H6
      obtain ⟨s6, e6⟩ := new_of h6 nz6
      have z6' : SqT K H6 z6 ([y].map V.str) := .inl (.inl e6)
      have s26 := s2.trans (s4.trans (s5.trans s6))
      refine ⟨a, z6, m, [y], rfl, ma.same s26, z6', M, fun H7 l7 s7 r7 => ?_⟩
      obtain ⟨w7, h7, d7⟩ := r7
      have lw7 := rows_len d7
      refine ⟨l7, w7, rfl, .inr h7, _, _, rfl, rfl, ?_⟩
      rw [lw5, lw7]
      have s37 := s4.trans (s5.trans (s6.trans s7))
      have eL7 := s37 _ _ eL
      have hl7 := Same.tup s37 hl2
      have dl7 := dpAll_same s37 _ _ dl
      have tk1 : ∀ g : Int, g = ((plainR m'.p m'.n (heardM m' [y])).length : Int) - ((plainR m.p m.n (heardM m [y])).length : Int) → (((nm.take (i + 1)).map fun x => (x, ((plainR m'.p m'.n (heardM m' [x])).length : Int) - ((plainR m.p m.n (heardM m [x])).length : Int))).filter fun z => decide (z.2 > 0)) = (((nm.take i).map fun x => (x, ((plainR m'.p m'.n (heardM m' [x])).length : Int) - ((plainR m.p m.n (heardM m [x])).length : Int))).filter fun z => decide (z.2 > 0)) ++ (if g > 0 then [(y, g)] else []) := fun g hg => by
        rw [List.take_add_one, gy, List.map_append, List.filter_append]
        congr 1
        show List.filter _ [(y, _)] = _
        rw [← hg]
        by_cases h0 : g > 0
        · rw [if_pos h0]
          exact List.filter_cons_of_pos (decide_eq_true h0)
        · rw [if_neg h0]
          exact List.filter_cons_of_neg (by rw [decide_eq_false h0]; decide)
      dsimp only
      generalize hg : ((plainR m'.p m'.n (heardM m' [y])).length : Int) - ((plainR m.p m.n (heardM m [y])).length : Int) = gg
      have tk2 := tk1 gg hg.symm
      refine ⟨.int gg, rfl, _, _, rfl, rfl, _, rfl, ?_⟩
      refine ite2 (fun h0 => ?_) (fun h0 => ?_)
      · have h0 : gg > 0 := by
          have := of_decide_eq_true h0
          omega
        refine ⟨.ref L, rfl, .inl ⟨rfl, _, .inl (.inl eL7)⟩, .str y, rfl, .int gg, rfl, sz1000 (by decide : (2 : Nat) ≤ 1000), fun z8 nz8 => ?_⟩
        generalize h8 : upd H7 z8 _ = H8
        obtain ⟨s8, e8⟩ := new_of h8 nz8
        have eL8 := s8 _ _ eL7
        refine ⟨L, ws, .ref z8, rfl, rfl, eL8, small1000 (by omega), ?_⟩
        have tk := (Tk.refl H8).mut eL8 (ys := ws ++ [.ref z8])
        refine ⟨same_mut (s26.trans (s7.trans s8)) nL, tk _ _ _ (Same.tup s8 hl7), ⟨ws ++ [.ref z8], upd_same, by rw [List.length_append, List.length_singleton]; omega, ?_⟩, _, _, rfl⟩
        rw [tk2, if_pos h0, List.map_append]
        exact dpAll_append (dpAll_tk tk _ _ (noL_pairs _) (dpAll_same s8 _ _ dl7)) (.cons (.tup (tk _ _ _ (.inl (.inl e8))) (.cons (.str y) (.cons (.int gg) .nil))) .nil)
      · have h0 : ¬ gg > 0 := fun z => h0 (decide_eq_true (by omega))
        rw [if_neg h0, List.append_nil] at tk2
        refine ⟨s26.trans (Same.refl _) |>.trans s7, hl7, ⟨ws, eL7, by omega, ?_⟩, _, _, rfl⟩
        rw [tk2]
        exact dl7
    · obtain ⟨s2, hl2, ⟨ws, eL, lw, dl⟩, y3, y4, rfl⟩ := hW
      rw [List.take_of_length_le (by rw [List.length_map]; omega)] at dl
      refine ⟨.ref L, rfl, L, _, rfl, .inl ⟨.inl (.inl eL), fun t nt => ?_⟩⟩
      generalize h9 : upd H2 t _ = H9
      obtain ⟨s9, e9⟩ := new_of h9 nt
      refine k H9 t (s2.trans s9) ?_
      unfold gainL
      rw [hnm]
      exact .tup (.inl (.inl e9)) (dpAll_same s9 _ _ dl)
def sp_blearned (K : PySem.W.Frag) (mg : Str → Option Value) : Sp := fun vs H Q _ => ∃ (b : Addr) (q : BookS) (i : Nat) (m m' : Mom), vs = [.ref b, .int (i : Int)] ∧ BookAt K mg H b q ∧ i < q.deeds.length ∧ q.moms[i]? = some m ∧ q.moms[i + 1]? = some m' ∧ MomOk 1000 m ∧ MomOk 1000 m' ∧
  ∀ H' l, Same H H' → Dp K H' (.ref l) (.tuple ((gainL m m').map pairD)) → Q (.ref l) H'
theorem ok_Book_learned (T : Top K mg) : OkM P w K mg base 9 "Book" "learned" ["self", "number"] [] (sp_blearned K mg) := by
  have O_is_number := ok_is_number (P := P) (w := w) (base := base) T
  have O_gained := ok_gained (P := P) (w := w) (base := base) T
  refine T.d_Book_learned.ok sc_Book_learned (fun vs H Q E h => ?_) (fun f cdv A outer s H vs Q E hr h => ?_)
  · obtain ⟨b, q, i, m, m', rfl, _⟩ := h
    rfl
  · obtain ⟨b, q, i, m, m', rfl, B, hi, g1, g2, M, M', k⟩ := h
    obtain ⟨⟨dx, w', t, u, v', ws, eb, h1, h2, h3, h4, h5⟩, nd, len⟩ := id B
    obtain ⟨wu, hu, du, lu⟩ := deeds_of h3
    refine ⟨_, ((pss_cons (ps_if (PW.pt (pw_or (pt_not (pt_val (pe_callO O_is_number (hr.mono (by omega)) (by rfl) (pa_cons (pv 1) pa_nil)))) (pw_or1 (pt_not (pt_chain op_le op_lt pe_int (pv 1) (pe_callB call_len_seq (by rfl) T.b_len (by decide +kernel) (pa_cons (pe_fld (pv 0) (by rfl)) pa_nil)))))))
        (pss_one ps_dead)
        pss_nil)
      (pss_one (ps_ret (pe_callO O_gained (hr.mono (by omega)) (by rfl) (pa_cons (pe_ix ix_tup (pe_fld (pv 0) (by rfl)) (pv 1) (fun _ _ => rfl)) (pa_cons (pe_ix ix_tup (pe_fld (pv 0) (by rfl)) (pe_op op_add (pv 1) pe_int) (fun _ _ => rfl)) pa_nil))))))), ?_⟩
    refine ⟨.int i, rfl, .int i, .int, rfl, kd_int _, _, rfl, ?_⟩
    obtain ⟨a, ga, ha⟩ := h2.get g1
    obtain ⟨a', ga', ha'⟩ := h2.get g2
    refine iteF ⟨.int i, rfl, 0, _, rfl, rfl, _, rfl, ?_⟩
    rw [decide_eq_true (show (0 : Int) ≤ (i : Int) by omega)]
    refine iteT ⟨.ref b, rfl, b, _, dx, _, _, rfl, eb, T.k_Book.cl, T.na_Book_done, bookF_done, u, _, rfl, .inr hu, _, _, rfl, rfl, _, rfl, ?_⟩
    rw [decide_eq_true (show (i : Int) < (wu.length : Int) by omega)]
    refine iteF ⟨.ref b, rfl, b, _, dx, _, _, rfl, eb, T.k_Book.cl, T.na_Book_moments, bookF_moments, .int i, rfl, t, _, i, .ref a, rfl, rfl, h1, atI_nat ga, ?_⟩
    refine ⟨.ref b, rfl, b, _, dx, _, _, rfl, eb, T.k_Book.cl, T.na_Book_moments, bookF_moments, .int i, rfl, _, _, rfl, rfl, ?_⟩
    exact ⟨t, _, (i : Int) + 1, .ref a', rfl, rfl, h1, atI_nat (j := i + 1) ga', a, a', m, m', rfl, ha, ha', M, M', k⟩
def sp_names_of (K : PySem.W.Frag) : Sp := fun vs H Q _ => ∃ (v : V) (p : Int) (n : Nat) (kn : List (List Int)) (hs : List (Str × List (List Int))), vs = [v] ∧ Dp K H v (standD p n kn hs) ∧ hs.length ≤ 9 ∧
  ∀ H' l, Same H H' → H l = none → H' l = some (.tup ((hs.map Prod.fst).map V.str)) → Q (.ref l) H'
theorem ok_names_of (T : Top K mg) : Ok P w K mg base 1 "names_of" ["stand"] (sp_names_of K) := by
  refine T.d_names_of.ok sc_names_of (fun vs H Q E h => ?_) (fun f cdv A outer s H vs Q E hr h => ?_)
  · obtain ⟨v, p, n, kn, hs, rfl, _⟩ := h
    rfl
  · obtain ⟨v, p, n, kn, hs, rfl, dp, hm, q⟩ := h
    obtain ⟨a, k, g, wg, rfl, ha, hk, hg, dg⟩ := dp_stand dp
    have lg := dpAll_len dg
    rw [List.length_map] at lg
    refine ⟨_, ((pss_one (ps_ret (pe_callTy call_tuple_of (by rfl) T.b_tuple (by decide +kernel) (pa_cons (pe_lc (own := [("name", 1), ("room", 2)]) (g := gTup K 2 (gCons (gName 1) (gCons (gName 2) gNil))) (by rfl) sc_names_of.nd (pi_tup (pe_ix ix_tup (pv 0) pe_int (fun _ _ => rfl))) (blkOk_by (own := [("name", 1), ("room", 2)]) (N := N_names_of) (sc := defScope s_names_of) (by decide +kernel)) (fun _ _ _ _ _ => (pg_tup (by rfl) (pgs_cons (pg_name (i := 1) sc_names_of.nd rfl (.inl rfl)) (pgs_cons (pg_name (i := 2) sc_names_of.nd rfl (.inl rfl)) pgs_nil)))) (fun _ _ _ _ _ => pts_nil) (fun _ _ _ _ _ => (pv 1))) pa_nil))))), ?_⟩
    refine ⟨.ref a, rfl, a, _, 3, .ref g, rfl, rfl, ha, rfl, g, rfl, ⟨_, hg⟩, fun D nD => lc_it (walk_tup (K := K) (a := g) (xs := wg)) (fun i H' => Same H H' ∧ H' D = some (.lst (((hs.take i).map Prod.fst).map V.str))) ⟨same_upd nD, upd_same⟩ (fun i H' _ hP => Same.tup hP.1 hg) (fun i x H1 H2 hi hP hY => ?_) (fun H' hP => ?_)⟩
    · obtain ⟨rfl, hx⟩ := hY
      obtain ⟨s1, eD⟩ := hP
      obtain ⟨c, r, x, rfl, gx, mx, hc, hrr⟩ := dpAll_hand (dpAll_same s1 _ _ dg) hx
      refine ⟨c, _, rfl, hc, rfl, _, _, rfl, _, _, rfl, rfl, rfl, .str x.1, rfl, _, eD, ?_, same_mut s1 nD, ?_⟩
      · rw [List.length_map, List.length_map, List.length_take]
        exact small1000 (by omega)
      · rw [upd_same, List.take_add_one, gx, List.map_append, List.map_append]
        rfl
    · obtain ⟨s1, eD⟩ := hP
      rw [List.take_of_length_le (by omega)] at eD
      refine ⟨D, _, rfl, .inl ⟨.inl (.inl eD), fun l nl => ?_⟩⟩
      have s2 := same_upd (o := .tup ((hs.map Prod.fst).map V.str)) nl
      have nl' : H l = none := by
        cases hh : H l with
        | none => rfl
        | some o => rw [s1 _ _ hh] at nl; cases nl
      exact q _ l (s1.trans s2) nl' upd_same
def sp_check_hand (K : PySem.W.Frag) : Sp := fun vs H Q _ => ∃ (b : Addr) (ns : List Str) (x : Str), vs = [.ref b, .str x] ∧ SqT K H b (ns.map V.str) ∧ x ∈ ns ∧ Q .non H
theorem ok_check_hand (T : Top K mg) : Ok P w K mg base 1 "check_hand" ["there", "hand"] (sp_check_hand K) := by
  refine T.d_check_hand.ok sc_check_hand (fun vs H Q E h => ?_) (fun f cdv A outer s H vs Q E hr h => ?_)
  · obtain ⟨b, ns, x, rfl, _⟩ := h
    rfl
  · obtain ⟨b, ns, x, rfl, hb, hx, q⟩ := h
    refine ⟨_, ((pss_one (ps_if (pt_cmpR op_notIn_seq (pv 1) (pv 0) (by rfl))
        (pss_one ps_dead)
        pss_nil))), ?_⟩
    refine ⟨.str x, rfl, .ref b, rfl, b, _, rfl, .inr hb, rfl, flat_strs ns, _, rfl, ?_⟩
    rw [show (if true = true then !inV (V.str x) (ns.map V.str) else inV (V.str x) (ns.map V.str)) = !decide (x ∈ ns) by rw [if_pos rfl, in_strs], decide_eq_true hx]
    exact iteF q
def sp_check_row (K : PySem.W.Frag) : Sp := fun vs H Q _ => ∃ (a : Addr) (r : List Int) (p : Int) (n : Nat), vs = [.int p, .int (n : Int), .ref a] ∧ SqT K H a (r.map V.int) ∧ RowsOk p n [r] ∧ n ≤ 100 ∧ ∀ H', Same H H' → Q .non H'
theorem ok_check_row (T : Top K mg) : Ok P w K mg base 4 "check_row" ["p", "n", "row"] (sp_check_row K) := by
  have O_is_row := ok_is_row (P := P) (w := w) (base := base) T
  refine T.d_check_row.ok sc_check_row (fun vs H Q E h => ?_) (fun f cdv A outer s H vs Q E hr h => ?_)
  · obtain ⟨a, r, p, n, rfl, _⟩ := h
    rfl
  · obtain ⟨a, r, p, n, rfl, ha, okr, hn, q⟩ := h
    have ok' := okr r List.mem_cons_self
    have rp : RepAll K H NB [.ref a] [rowD r] := rep_rows (ws := [.ref a]) (rs := [r]) (.cons (.tup ha (dpAll_ints r)) .nil)
    have rp1 : Rep K H NB (.ref a) (rowD r) := by
      cases rp with
      | cons h _ => exact h
    refine ⟨_, ((pss_one (ps_if (pt_not (pt_val (pe_callO O_is_row (hr.mono (by omega)) (by rfl) (pa_cons (pv 0) (pa_cons (pv 1) (pa_cons (pv 2) pa_nil))))))
        (pss_one ps_dead)
        pss_nil))), ?_⟩
    refine ⟨.int p, rfl, .int n, rfl, .ref a, rfl, p, n, .ref a, rowD r, rfl, rp1, show (r.map PyData.int).length ≤ 1000 by rw [List.length_map]; omega, fun H1 s1 => ?_⟩
    rw [isRow_row ok']
    exact ⟨true, rfl, iteF (q H1 s1)⟩
def sp_room_in (K : PySem.W.Frag) : Sp := fun vs H Q _ => ∃ (v : V) (b : Addr) (ns : List Str) (p : Int) (n : Nat) (kn : List (List Int)) (hs : List (Str × List (List Int))), vs = [v, .ref b] ∧ Dp K H v (standD p n kn hs) ∧ (SqL K H b (ns.map V.str) ∨ SqT K H b (ns.map V.str)) ∧ StandR p n kn hs ∧
  ∀ H' l, Same H H' → RowsAt K H' l (plainR p n (kn ++ selR ns hs)) → Q (.ref l) H'
theorem ok_room_in (T : Top K mg) : Ok P w K mg base 6 "room_in" ["stand", "names"] (sp_room_in K) := by
  have O_room_of := ok_room_of (P := P) (w := w) (base := base) T
  refine T.d_room_in.ok sc_room_in (fun vs H Q E h => ?_) (fun f cdv A outer s H vs Q E hr h => ?_)
  · obtain ⟨v, b, ns, p, n, kn, hs, rfl, _⟩ := h
    rfl
  · obtain ⟨v, b, ns, p, n, kn, hs, rfl, dp, hb, G, q⟩ := h
    obtain ⟨a, k, g, wg, rfl, ha, hk, hg, dg⟩ := dp_stand dp
    have lg := dpAll_len dg
    rw [List.length_map] at lg
    refine ⟨_, ((pss_cons (ps_asg (pv 0) (pg_tup (by rfl) (pgs_cons (pg_name (i := 2) sc_room_in.nd rfl (.inl rfl)) (pgs_cons (pg_name (i := 3) sc_room_in.nd rfl (.inl rfl)) (pgs_cons (pg_name (i := 4) sc_room_in.nd rfl (.inl rfl)) (pgs_cons (pg_name (i := 5) sc_room_in.nd rfl (.inl rfl)) pgs_nil))))))
      (pss_cons (ps_set (i := 6) sc_room_in.nd rfl (.inl rfl) (pv 4))
      (pss_cons (ps_for PassesOwn.never (by rfl) (pi_tup (pv 5)) (pg_tup (by rfl) (pgs_cons (pg_name (i := 7) sc_room_in.nd rfl (.inl rfl)) (pgs_cons (pg_name (i := 8) sc_room_in.nd rfl (.inl rfl)) pgs_nil)))
        (pss_one (ps_if (pt_cmpR op_in_seq (pv 7) (pv 1) (by rfl))
          (pss_one (ps_set (i := 6) sc_room_in.nd rfl (.inl rfl) (pe_op op_catB (pv 6) (pv 8))))
          pss_nil)))
      (pss_one (ps_ret (pe_callO O_room_of (hr.mono (by omega)) (by rfl) (pa_cons (pv 2) (pa_cons (pv 3) (pa_cons (pv 6) pa_nil)))))))))), ?_⟩
    refine ⟨.ref a, rfl, a, _, rfl, ha, rfl, _, _, rfl, _, _, rfl, _, _, rfl, _, _, rfl, rfl, .ref k, rfl, .ref g, rfl, g, rfl, ⟨_, hg⟩, for_it (walk_tup (K := K) (a := g) (xs := wg)) (fun i σ H' => Same H H' ∧ ∃ (l : Addr) (y7 y8 : Option V), RowsAt K H' l (kn ++ selR ns (hs.take i)) ∧ σ = [some (.ref a), some (.ref b), some (.int p), some (.int (n : Int)), some (.ref k), some (.ref g), some (.ref l), y7, y8])
      ⟨Same.refl H, k, none, none, by rw [show selR ns (hs.take 0) = [] from rfl, List.append_nil]; exact hk, rfl⟩ (fun i σ H' _ hW => Same.tup hW.1 hg) (fun i x σ H' H'' hi hW hY => ?_) (fun σ H' hW => ?_)⟩
    · obtain ⟨rfl, hx⟩ := hY
      obtain ⟨s1, l, y7, y8, hl, rfl⟩ := hW
      obtain ⟨c, r, x, rfl, gx, mx, hc, hrr⟩ := dpAll_hand (dpAll_same s1 _ _ dg) hx
      refine ⟨c, _, rfl, hc, rfl, _, _, rfl, _, _, rfl, rfl, ?_⟩
      refine ⟨.str x.1, rfl, .ref b, rfl, b, _, rfl, hb.imp (sql_same s1) (Same.tup s1), rfl, flat_strs ns, ?_⟩
      refine ⟨_, rfl, ?_⟩
      rw [show (if false = true then !inV (V.str x.1) (ns.map V.str) else inV (V.str x.1) (ns.map V.str)) = decide (x.1 ∈ ns) from in_strs x.1 ns]
      have st := sel_take (ns := ns) gx
      by_cases hn : x.1 ∈ ns
      · rw [decide_eq_true hn]
        rw [if_pos hn] at st
        obtain ⟨w1, hw1, hw2⟩ := hl
        obtain ⟨w2, hr1, hr2⟩ := hrr
        have l1 := dpAll_len hw2
        have l2 := dpAll_len hr2
        rw [List.length_map] at l1 l2
        rw [List.length_append] at l1
        have lx := G.lr x mx
        have ls := sel_len (ns := ns) (B := 8) (hs := hs.take i) (fun y hy => G.lr y (List.mem_of_mem_take hy))
        have lt := List.length_take_le i hs
        have lm := G.many
        have lk := G.lk
        have ls72 : (selR ns (hs.take i)).length ≤ 8 * 9 := Nat.le_trans ls (Nat.mul_le_mul_left 8 (by rw [List.length_take]; omega))
        refine iteT ⟨.ref l, rfl, .ref r, rfl, l, r, _, _, rfl, rfl, hw1, hr1, Nat.le_of_lt (small1000 (by omega)), fun o H3 s3 ho => ?_⟩
        refine ⟨s1.trans s3, o, _, _, ⟨_, ho, ?_⟩, rfl⟩
        rw [st, ← List.append_assoc, List.map_append]
        exact dpAll_append (dpAll_same s3 _ _ hw2) (dpAll_same s3 _ _ hr2)
      · rw [decide_eq_false hn]
        rw [if_neg hn, List.append_nil] at st
        exact iteF ⟨s1, l, _, _, by rw [st]; exact hl, rfl⟩
    · obtain ⟨s1, l, y7, y8, hl, rfl⟩ := hW
      rw [List.take_of_length_le (by omega)] at hl
      refine ⟨.int p, rfl, .int n, rfl, .ref l, rfl, l, _, p, n, rfl, hl, fun r hr => ?_, G.fld, G.n1, by have := G.n8; omega, G.p1, fun H2 l2 s2 h2 => q H2 l2 (s1.trans s2) h2⟩
      rcases List.mem_append.mp hr with hr | hr
      · exact G.ok r hr
      · exact sel_ok G.rm r hr
theorem at2 {K : PySem.W.Frag} {p : Int} {n : Nat} {k g : Addr} : atI [V.int p, .int (n : Int), .ref k, .ref g] 2 = some (.ref k) := rfl
def toldR (p : Int) (n : Nat) (row : List Int) (hs : List (Str × List (List Int))) : List (Str × List (List Int)) := hs.map fun h => (h.1, plainR p n (h.2 ++ [row]))
def sp_behind (K : PySem.W.Frag) : Sp := fun vs H Q _ => ∃ (v : V) (x : Str) (c : Addr) (row : List Int) (p : Int) (n : Nat) (kn : List (List Int)) (hs : List (Str × List (List Int))), vs = [v, .str x, .ref c] ∧ Dp K H v (standD p n kn hs) ∧ SqT K H c (row.map V.int) ∧ RowsOk p n [row] ∧ StandR p n kn hs ∧ PFR p n kn ∧ (∀ h ∈ hs, PFR p n h.2) ∧ x ∈ hs.map Prod.fst ∧ hasR p n (plainR p n (kn ++ selR [x] hs)) row = true ∧
  ∀ H' l, Same H H' → Dp K H' (.ref l) (standD p n (plainR p n (kn ++ [row])) (toldR p n row hs)) → Q (.ref l) H'
theorem ok_behind (T : Top K mg) : Ok P w K mg base 7 "behind" ["stand", "hand", "row"] (sp_behind K) := by
  have O_names_of := ok_names_of (P := P) (w := w) (base := base) T
  have O_check_hand := ok_check_hand (P := P) (w := w) (base := base) T
  have O_check_row := ok_check_row (P := P) (w := w) (base := base) T
  have O_room_in := ok_room_in (P := P) (w := w) (base := base) T
  have O_within := ok_within (P := P) (w := w) (base := base) T
  have O_widened := ok_widened (P := P) (w := w) (base := base) T
  refine T.d_behind.ok sc_behind (fun vs H Q E h => ?_) (fun f cdv A outer s H vs Q E hr h => ?_)
  · obtain ⟨v, x, c, row, p, n, kn, hs, rfl, _⟩ := h
    rfl
  · obtain ⟨v, x, c, row, p, n, kn, hs, rfl, dp, hc, okr, G, pk, ph, hx, hin, q⟩ := h
    obtain ⟨a, k, g, wg, rfl, ha, hk, hg, dg⟩ := dp_stand dp
    have lg := dpAll_len dg
    rw [List.length_map] at lg
    have n8 := G.n8
    have m9 := G.many
    have oks : RowsOk p n (kn ++ selR [x] hs) := fun r hr => by
      rcases List.mem_append.mp hr with hr | hr
      · exact G.ok r hr
      · exact sel_ok G.rm r hr
    refine ⟨_, ((pss_cons (ps_asg (pv 0) (pg_tup (by rfl) (pgs_cons (pg_name (i := 3) sc_behind.nd rfl (.inr rfl)) (pgs_cons (pg_name (i := 4) sc_behind.nd rfl (.inl rfl)) (pgs_cons (pg_name (i := 5) sc_behind.nd rfl (.inl rfl)) (pgs_cons (pg_name (i := 6) sc_behind.nd rfl (.inl rfl)) pgs_nil))))))
      (pss_cons (ps_expr (pe_callO O_check_hand (hr.mono (by omega)) (by rfl) (pa_cons (pe_callO O_names_of (hr.mono (by omega)) (by rfl) (pa_cons (pv 0) pa_nil)) (pa_cons (pv 1) pa_nil))))
      (pss_cons (ps_expr (pe_callO O_check_row (hr.mono (by omega)) (by rfl) (pa_cons (pv 3) (pa_cons (pv 4) (pa_cons (pv 2) pa_nil)))))
      (pss_cons (ps_if (pt_not (pt_val (pe_callO O_within (hr.mono (by omega)) (by rfl) (pa_cons (pv 3) (pa_cons (pe_callO O_room_in (hr.mono (by omega)) (by rfl) (pa_cons (pv 0) (pa_cons (pe_tup (pa_cons (pv 1) pa_nil)) pa_nil))) (pa_cons (pv 2) pa_nil))))))
        (pss_one ps_dead)
        pss_nil)
      (pss_cons (ps_set (i := 9) sc_behind.nd rfl (.inl rfl) (pe_callTy call_tuple_of (by rfl) T.b_tuple (by decide +kernel) (pa_cons (pe_lc (own := [("name", 7), ("room", 8)]) (g := gTup K 2 (gCons (gName 7) (gCons (gName 8) gNil))) (by rfl) sc_behind.nd (pi_tup (pv 6)) (blkOk_by (own := [("name", 7), ("room", 8)]) (N := N_behind) (sc := defScope s_behind) (by decide +kernel)) (fun _ _ _ _ _ => (pg_tup (by rfl) (pgs_cons (pg_name (i := 7) sc_behind.nd rfl (.inl rfl)) (pgs_cons (pg_name (i := 8) sc_behind.nd rfl (.inl rfl)) pgs_nil)))) (fun _ _ _ _ _ => pts_nil) (fun _ _ _ _ _ => (pe_tup (pa_cons (pv 7) (pa_cons (pe_callO O_widened (hr.mono (by omega)) (by rfl) (pa_cons (pv 3) (pa_cons (pv 8) (pa_cons (pv 2) pa_nil)))) pa_nil))))) pa_nil)))
      (pss_one (ps_ret (pe_tup (pa_cons (pv 3) (pa_cons (pv 4) (pa_cons (pe_callO O_widened (hr.mono (by omega)) (by rfl) (pa_cons (pv 3) (pa_cons (pv 5) (pa_cons (pv 2) pa_nil)))) (pa_cons (pv 9) pa_nil))))))))))))), ?_⟩
    refine ⟨.ref a, rfl, a, _, rfl, ha, rfl, _, _, rfl, _, _, rfl, _, _, rfl, _, _, rfl, rfl, ?_⟩
    refine ⟨.ref a, rfl, .ref a, p, n, kn, hs, rfl, dp, m9, fun H1 l1 s1 n1 e1 => ?_⟩
    refine ⟨.str x, rfl, l1, _, x, rfl, .inl (.inl e1), hx, ?_⟩
    refine ⟨.int p, rfl, .int n, rfl, .ref c, rfl, c, row, p, n, rfl, Same.tup s1 hc, okr, by omega, fun H2 s2 => ?_⟩
    have s12 := s1.trans s2
    refine ⟨.int p, rfl, .ref a, rfl, .str x, rfl, Nat.le_of_lt (small1000 (show 1 ≤ 1000 by decide)), fun o no => ?_⟩
    dsimp only
    generalize h3 : upd H2 o _ = H3
    obtain ⟨s3, e3⟩ := new_of h3 no
    have s13 := s12.trans s3
    refine ⟨.ref a, o, [x], p, n, kn, hs, rfl, dp_same s13 _ _ dp, .inr (.inl (.inl e3)), G, fun H4 l4 s4 r4 => ?_⟩
    have s14 := s13.trans s4
    refine ⟨.ref c, rfl, c, l4, _, row, p, n, rfl, r4, Same.tup s14 hc, PFR.of_plain G.fld oks, okr, G.fld, by omega, G.p1, fun H5 s5 => ?_⟩
    have s15 := s14.trans s5
    rw [hin]
    refine ⟨true, rfl, iteF ?_⟩
    have hg5 := Same.tup s15 hg
    refine ⟨.ref g, rfl, g, rfl, ⟨_, hg5⟩, fun D nD => lc_it (walk_tup (K := K) (a := g) (xs := wg)) (fun i H' => Same H5 H' ∧ ∃ vs, H' D = some (.lst vs) ∧ vs.length = i ∧ DpAll K H' vs ((toldR p n row (hs.take i)).map handD)) ⟨same_upd nD, [], upd_same, rfl, .nil⟩ (fun i H' _ hP => Same.tup hP.1 hg5) (fun i y H6 H7 hi hP hY => ?_) (fun H6 hP => ?_)⟩
    · obtain ⟨rfl, hy⟩ := hY
      obtain ⟨s6, vs, eD, lv, dv⟩ := hP
      obtain ⟨d, r, z, rfl, gz, mz, hd, hrr⟩ := dpAll_hand (dpAll_same (s15.trans s6) _ _ dg) hy
      refine ⟨d, _, rfl, hd, rfl, _, _, rfl, _, _, rfl, rfl, rfl, .str z.1, rfl, .int p, rfl, .ref r, rfl, .ref c, rfl, c, r, z.2, row, p, n, rfl, hrr, Same.tup (s15.trans s6) hc, ph z mz, okr, G.fld, G.n1, by omega, G.p1, fun H8 l8 s8 r8 => ?_⟩
      refine ⟨Nat.le_of_lt (small1000 (show 2 ≤ 1000 by decide)), fun o9 n9 => ?_⟩
      dsimp only
      generalize h9 : upd H8 o9 _ = H9
      obtain ⟨s9, e9⟩ := new_of h9 n9
      have eD9 := (s8.trans s9) _ _ eD
      have tk : Tk H9 (upd H9 D (.lst (vs ++ [.ref o9]))) := (Tk.refl _).mut eD9
      obtain ⟨w8, q8, d8⟩ := r8
      refine ⟨vs, eD9, small1000 (by omega), same_mut (s6.trans (s8.trans s9)) nD, vs ++ [.ref o9], upd_same, by rw [List.length_append, lv]; rfl, ?_⟩
      unfold toldR at dv ⊢
      rw [List.take_add_one, gz, List.map_append, List.map_append]
      refine dpAll_append (dpAll_tk ((Tk.of (s8.trans s9)).trans tk) _ _ (noL_hands _) dv) (.cons (.tup (xs := [.str z.1, .ref l8]) (tk _ _ _ (.inl (.inl e9))) (.cons (.str z.1) (.cons (.tup (tk _ _ _ (Same.tup s9 q8)) (dpAll_tk ((Tk.of s9).trans tk) _ _ (noL_rows _) d8)) .nil))) .nil)
    · obtain ⟨s6, vs, eD, lv, dv⟩ := hP
      rw [List.take_of_length_le (by omega)] at dv
      refine ⟨D, _, rfl, .inl ⟨.inl (.inl eD), fun o7 n7 => ?_⟩⟩
      dsimp only
      generalize h7 : upd H6 o7 _ = H7
      obtain ⟨s7, e7⟩ := new_of h7 n7
      have s17 := s15.trans (s6.trans s7)
      have hk7 : RowsAt K H7 k kn := by
        obtain ⟨wk, q1, q2⟩ := hk
        exact ⟨wk, Same.tup s17 q1, dpAll_same s17 _ _ q2⟩
      refine ⟨.int p, rfl, .int n, rfl, .int p, rfl, .ref k, rfl, .ref c, rfl, c, k, kn, row, p, n, rfl, hk7, Same.tup s17 hc, pk, okr, G.fld, G.n1, by omega, G.p1, fun H8 l8 s8 r8 => ?_⟩
      refine ⟨.ref o7, rfl, Nat.le_of_lt (small1000 (show 4 ≤ 1000 by decide)), fun o9 n9 => ?_⟩
      generalize h9 : upd H8 o9 _ = H9
      obtain ⟨s9, e9⟩ := new_of h9 n9
      obtain ⟨w8, q8, d8⟩ := r8
      exact q H9 o9 (s17.trans (s8.trans s9)) (.tup (xs := [.int p, .int n, .ref l8, .ref o7]) (.inl (.inl e9)) (.cons (.int p) (.cons (.int n) (.cons (.tup (Same.tup s9 q8) (dpAll_same s9 _ _ d8)) (.cons (.tup (.inl (.inl ((s8.trans s9) _ _ e7))) (dpAll_same (s7.trans (s8.trans s9)) _ _ dv)) .nil)))))
structure BookI (p : Int) (n : Nat) (nm : List Str) (B : Nat) (q : BookS) : Prop where
  amid : q.amid = false
  ok : ∀ m ∈ q.moms, MomOk B m ∧ m.p = p ∧ m.n = n ∧ m.hands.map Prod.fst = nm
  row : ∀ (x : Str) (r : List Int), Deed.call x r ∈ q.deeds → RowsOk p n [r]
  few : q.deeds.length ≤ B
  len : q.moms.length = q.deeds.length + 1
theorem BookI.push {p : Int} {n : Nat} {nm : List Str} {B : Nat} {q : BookS} {m' : Mom} {d : Deed} (I : BookI p n nm B q) (M : MomOk (B + 1) m') (e1 : m'.p = p) (e2 : m'.n = n) (e3 : m'.hands.map Prod.fst = nm) (hd : ∀ x r, d = .call x r → RowsOk p n [r]) : BookI p n nm (B + 1) (q.push m' d) where
  amid := I.amid
  ok := fun m hm => by
    rcases List.mem_append.mp hm with hm | hm
    · obtain ⟨a, b⟩ := I.ok m hm
      exact ⟨a.mono (Nat.le_succ _), b⟩
    · rw [List.mem_singleton.mp hm]
      exact ⟨M, e1, e2, e3⟩
  row := fun x r hm => by
    rcases List.mem_append.mp hm with hm | hm
    · exact I.row x r hm
    · exact hd x r (List.mem_singleton.mp hm).symm
  few := by
    show (q.deeds ++ [d]).length ≤ B + 1
    rw [List.length_append, List.length_singleton]
    have := I.few
    omega
  len := by
    show (q.moms ++ [m']).length = (q.deeds ++ [d]).length + 1
    rw [List.length_append, List.length_append, I.len]
    rfl
theorem BookI.mono {p : Int} {n : Nat} {nm : List Str} {B B' : Nat} {q : BookS} (I : BookI p n nm B q) (h : B ≤ B') : BookI p n nm B' q where
  amid := I.amid
  ok := fun m hm => ⟨(I.ok m hm).1.mono h, (I.ok m hm).2⟩
  row := I.row
  few := Nat.le_trans I.few h
  len := I.len
end
end OC
set_option Elab.async false
set_option linter.all false
set_option maxRecDepth 100000
set_option maxHeartbeats 4000000
namespace OC
open PySem PySem.Spec PyProof.Rows L2
section
variable {P : Program} {w : World} {K : PySem.W.Frag} {mg : Str → Option Value} {base : Heap}
/-- the hands behind rows told to all -/
def lastH (p : Int) (n : Nat) (rows : List (List Int)) (hs : List (Str × List (List Int))) : List (Str × List (List Int)) := hs.map fun h => (h.1, plainR p n (h.2 ++ rows))
theorem lastH_nil {p : Int} {n : Nat} {kn : List (List Int)} {hs : List (Str × List (List Int))} (S : Stand5 p n kn hs) : lastH p n [] hs = hs := by
  unfold lastH
  refine (List.map_congr_left (g := id) fun h mh => ?_).trans (List.map_id _)
  rw [List.append_nil, (S.ph h mh).2]
  rfl
theorem lastH_step {p : Int} {n : Nat} {kn rows : List (List Int)} {hs : List (Str × List (List Int))} {row : List Int} (S : Stand5 p n kn hs) (ok : RowsOk p n rows) (okr : RowsOk p n [row]) : toldR p n row (lastH p n rows hs) = lastH p n (rows ++ [row]) hs := by
  unfold toldR lastH
  rw [List.map_map]
  refine List.map_congr_left fun h mh => ?_
  show (h.1, plainR p n (plainR p n (h.2 ++ rows) ++ [row])) = _
  rw [plainR_app S.fld (rowsOk_app (S.ph h mh).1 ok) okr, List.append_assoc]
theorem lastH_same {p : Int} {n : Nat} {kn rows rows' : List (List Int)} {hs : List (Str × List (List Int))} (S : Stand5 p n kn hs) (ok : RowsOk p n rows) (ok' : RowsOk p n rows') (a : ∀ r ∈ rows, InR p rows' r) (b : ∀ r ∈ rows', InR p rows r) : lastH p n rows hs = lastH p n rows' hs ∧ plainR p n (kn ++ rows) = plainR p n (kn ++ rows') := by
  have one : ∀ room : List (List Int), RowsOk p n room → plainR p n (room ++ rows) = plainR p n (room ++ rows') := fun room okm => by
    refine plain_same S.fld (rowsOk_app okm ok) (rowsOk_app okm ok') (fun r hr => ?_) fun r hr => ?_
    · rcases List.mem_append.mp hr with hr | hr
      · exact InR.mem (List.mem_append_left _ hr)
      · exact InR.mono (fun x hx => InR.mem (List.mem_append_right _ hx)) (a r hr)
    · rcases List.mem_append.mp hr with hr | hr
      · exact InR.mem (List.mem_append_left _ hr)
      · exact InR.mono (fun x hx => InR.mem (List.mem_append_right _ hx)) (b r hr)
  refine ⟨List.map_congr_left fun h mh => ?_, one kn S.pk.1⟩
  show (h.1, plainR p n (h.2 ++ rows)) = _
  rw [one h.2 (S.ph h mh).1]
theorem Stand5.on {p : Int} {n : Nat} {kn rows : List (List Int)} {hs : List (Str × List (List Int))} (S : Stand5 p n kn hs) (ok : RowsOk p n rows) : Stand5 p n (plainR p n (kn ++ rows)) (lastH p n rows hs) := by
  have names : (lastH p n rows hs).map Prod.fst = hs.map Prod.fst := by
    unfold lastH
    rw [List.map_map]
    rfl
  have len : (lastH p n rows hs).length = hs.length := by
    unfold lastH
    rw [List.length_map]
  refine ⟨S.fld, S.p1, S.n1, S.n8, PFR.of_plain S.fld (rowsOk_app S.pk.1 ok), fun h hh => ?_, fun h hh r mr => ?_, by rw [len]; exact S.few, by rw [len]; exact S.many, by rw [names]; exact S.srt, by rw [names]; exact S.nd, by rw [names]; exact S.nm⟩
  · obtain ⟨x, mx, rfl⟩ := List.mem_map.mp hh
    exact PFR.of_plain S.fld (rowsOk_app (S.ph x mx).1 ok)
  · obtain ⟨x, mx, rfl⟩ := List.mem_map.mp hh
    refine (InR.plain S.fld (rowsOk_app (S.ph x mx).1 ok)).mpr ?_
    refine InR.mono (fun z hz => ?_) ((InR.plain S.fld (rowsOk_app S.pk.1 ok)).mp (InR.mem mr))
    rcases List.mem_append.mp hz with hz | hz
    · exact InR.mono (fun y hy => InR.mem (List.mem_append_left _ hy)) (S.inn x mx z hz)
    · exact InR.mem (List.mem_append_right _ hz)
theorem CallsIn.rows {p : Int} {n : Nat} {hs : List (Str × List (List Int))} {cs : List (Str × List Int)} (h : CallsIn p n hs cs) : RowsOk p n (rowsC cs) := fun r hr => by
  obtain ⟨c, mc, rfl⟩ := List.mem_map.mp hr
  exact (h c mc).1 _ (List.mem_singleton_self _)
def sp_lbehind (K : PySem.W.Frag) : Sp := fun vs H Q _ => ∃ (v : V) (a : Addr) (p : Int) (n : Nat) (kn : List (List Int)) (hs : List (Str × List (List Int))) (ws : List V) (cs : List (Str × List Int)), vs = [v, .ref a] ∧ Dp K H v (standD p n kn hs) ∧ Stand5 p n kn hs ∧ SqT K H a ws ∧ DpAll K H ws (cs.map callD) ∧ CallsIn p n hs cs ∧
  ∀ H' v', Same H H' → Dp K H' v' (standD p n (plainR p n (kn ++ rowsC cs)) (lastH p n (rowsC cs) hs)) → Q v' H'
theorem ok__law_behind (T : Top K mg) : Ok P w K mg base 8 "_law_behind" ["_law_stand_here", "_law_calls_here"] (sp_lbehind K) := by
  have O_behind := ok_behind (P := P) (w := w) (base := base) T
  refine T.d__law_behind.ok sc__law_behind (fun vs H Q E h => ?_) (fun f cdv A outer s H vs Q E hr h => ?_)
  · obtain ⟨v, a, p, n, kn, hs, ws, cs, rfl, _⟩ := h
    rfl
  · obtain ⟨v, a, p, n, kn, hs, ws, cs, rfl, dp, S, hA, dA, cin, q⟩ := h
    have la := dpAll_len dA
    rw [List.length_map] at la
    have okc := cin.rows
    refine ⟨_, ((pss_cons (ps_for PassesOwn.never (by rfl) (pi_tup (pv 1)) (pg_tup (by rfl) (pgs_cons (pg_name (i := 2) sc__law_behind.nd rfl (.inl rfl)) (pgs_cons (pg_name (i := 3) sc__law_behind.nd rfl (.inl rfl)) pgs_nil)))
        (pss_one (ps_set (i := 0) sc__law_behind.nd rfl (.inl rfl) (pe_callO O_behind (hr.mono (by omega)) (by rfl) (pa_cons (pv 0) (pa_cons (pv 2) (pa_cons (pv 3) pa_nil)))))))
      (pss_one (ps_ret (pv 0))))), ?_⟩
    refine ⟨.ref a, rfl, a, rfl, ⟨_, hA⟩, for_it (walk_tup (K := K) (a := a) (xs := ws)) (fun i σ H' => Same H H' ∧ ∃ (v' : V) (y2 y3 : Option V), Dp K H' v' (standD p n (plainR p n (kn ++ rowsC (cs.take i))) (lastH p n (rowsC (cs.take i)) hs)) ∧ σ = [some v', some (.ref a), y2, y3]) ⟨Same.refl _, v, none, none, by
      show Dp K H v (standD p n (plainR p n (kn ++ [])) (lastH p n [] hs))
      rw [List.append_nil, S.pk.2, lastH_nil S]
      exact dp, rfl⟩ (fun i σ H' _ hW => Same.tup hW.1 hA) (fun i x σ H2 H3 hi hW hY => ?_) (fun σ H2 hW => ?_)⟩
    · obtain ⟨rfl, hx⟩ := hY
      obtain ⟨s3, v', y2, y3, dp3, rfl⟩ := hW
      obtain ⟨d', gd', _, hd'⟩ := dpAll_get (dpAll_same s3 _ _ dA) hx
      rw [List.getElem?_map] at gd'
      obtain ⟨z, gz, rfl⟩ := Option.map_eq_some_iff.mp gd'
      have mz : z ∈ cs := List.mem_of_getElem? gz
      obtain ⟨b, r, rfl, hb, hr3⟩ := dp_call80 hd'
      obtain ⟨okz, hz, mhz, ehz, inz⟩ := cin z mz
      have okt : RowsOk p n (rowsC (cs.take i)) := fun y hy => okc y (by
        obtain ⟨c, mc, rfl⟩ := List.mem_map.mp hy
        exact List.mem_map_of_mem (List.mem_of_mem_take mc))
      have Si := S.on okt
      have mh' : (hz.1, plainR p n (hz.2 ++ rowsC (cs.take i))) ∈ lastH p n (rowsC (cs.take i)) hs := List.mem_map_of_mem (f := fun h : Str × List (List Int) => (h.1, plainR p n (h.2 ++ rowsC (cs.take i)))) mhz
      have own := Si.own mh'
      have er : rowsC (cs.take (i + 1)) = rowsC (cs.take i) ++ [z.2] := by
        unfold rowsC
        rw [List.take_add_one, gz, List.map_append]
        rfl
      refine ⟨b, _, rfl, hb, rfl, _, _, rfl, _, _, rfl, rfl, v', rfl, .str z.1, rfl, .ref r, rfl, v', z.1, r, z.2, p, n, _, _, rfl, dp3, hr3, okz, Si.toR, Si.pk, Si.ph, ?_, ?_, fun H4 l4 s4 dp4 => ?_⟩
      · rw [← ehz]
        exact List.mem_map.mpr ⟨_, mh', rfl⟩
      · rw [← ehz, own]
        refine (hasR_in S.fld (Si.ph _ mh').1 okz).mpr ((InR.plain S.fld (rowsOk_app (S.ph hz mhz).1 okt)).mpr (InR.mono (fun y hy => InR.mem (List.mem_append_left _ hy)) inz))
      · refine ⟨s3.trans s4, .ref l4, _, _, ?_, rfl⟩
        rw [er, ← lastH_step S okt okz, ← List.append_assoc, ← plainR_app S.fld (rowsOk_app S.pk.1 okt) okz]
        exact dp4
    · obtain ⟨s3, v', y2, y3, dp3, rfl⟩ := hW
      rw [List.take_of_length_le (by omega)] at dp3
      exact ⟨v', rfl, q H2 v' s3 dp3⟩
def sp_due80 (K : PySem.W.Frag) : Sp := fun vs H Q _ => ∃ (s a : Addr) (p : Int) (n : Nat) (kn : List (List Int)) (hs : List (Str × List (List Int))) (ws : List V) (cs : List (Str × List Int)), vs = [.ref s, .ref a] ∧ Dp K H (.ref s) (standD p n kn hs) ∧ Stand5 p n kn hs ∧ SqT K H a ws ∧ DpAll K H ws (cs.map callD) ∧ CallsIn p n hs cs ∧ cs.length ≤ 7 ∧
  ∀ H' l, Same H H' → Dp K H' (.ref l) (standD p n (plainR p n (kn ++ rowsC cs)) (lastH p n (rowsC cs) hs)) → Q (.ref l) H'
theorem ok__law_due (T : Top K mg) : Ok P w K mg base 3 "_law_due" ["_law_stand_here", "_law_calls_here"] (sp_due80 K) := by
  have O__law_plain := ok__law_plain (P := P) (w := w) (base := base) T
  refine T.d__law_due.ok sc__law_due (fun vs H Q E h => ?_) (fun f cdv A outer s H vs Q E hr h => ?_)
  · obtain ⟨s, a, p, n, kn, hs, ws, cs, rfl, _⟩ := h
    rfl
  · obtain ⟨s', a, p, n, kn, hs, ws, cs, rfl, dp, S, hA, dA, cin, lcs, q⟩ := h
    obtain ⟨_, k, g, wg, es, ha, hk, hg, dg⟩ := dp_stand dp
    cases es
    have la := dpAll_len dA
    rw [List.length_map] at la
    have lg := dpAll_len dg
    rw [List.length_map] at lg
    have okc := cin.rows
    have lrc : (rowsC cs).length = cs.length := List.length_map ..
    have F := S.fld
    have p1 := S.p1
    have n8 := S.n8
    have many := S.many
    refine ⟨_, ((pss_cons (ps_asg (pv 0) (pg_tup (by rfl) (pgs_cons (pg_name (i := 2) sc__law_due.nd rfl (.inr rfl)) (pgs_cons (pg_name (i := 3) sc__law_due.nd rfl (.inr rfl)) (pgs_cons (pg_name (i := 4) sc__law_due.nd rfl (.inl rfl)) (pgs_cons (pg_name (i := 5) sc__law_due.nd rfl (.inl rfl)) pgs_nil))))))
      (pss_cons (ps_set (i := 8) sc__law_due.nd rfl (.inr rfl) (pe_callTy call_tuple_of (by rfl) T.b_tuple (by decide +kernel) (pa_cons (pe_lc (own := [("_law_name", 6), ("_law_row_here", 7)]) (g := gTup K 2 (gCons (gName 6) (gCons (gName 7) gNil))) (by rfl) sc__law_due.nd (pi_tup (pv 1)) (blkOk_by (own := [("_law_name", 6), ("_law_row_here", 7)]) (N := N__law_due) (sc := defScope s__law_due) (by decide +kernel)) (fun _ _ _ _ _ => (pg_tup (by rfl) (pgs_cons (pg_name (i := 6) sc__law_due.nd rfl (.inl rfl)) (pgs_cons (pg_name (i := 7) sc__law_due.nd rfl (.inl rfl)) pgs_nil)))) (fun _ _ _ _ _ => pts_nil) (fun _ _ _ _ _ => (pv 7))) pa_nil)))
      (pss_cons (ps_set (i := 10) sc__law_due.nd rfl (.inl rfl) (pe_callTy call_tuple_of (by rfl) T.b_tuple (by decide +kernel) (pa_cons (pe_lc (own := [("_law_name", 6), ("_law_room", 9)]) (g := gTup K 2 (gCons (gName 6) (gCons (gName 9) gNil))) (by rfl) sc__law_due.nd (pi_tup (pv 5)) (blkOk_by (own := [("_law_name", 6), ("_law_room", 9)]) (N := N__law_due) (sc := defScope s__law_due) (by decide +kernel)) (fun _ _ _ _ _ => (pg_tup (by rfl) (pgs_cons (pg_name (i := 6) sc__law_due.nd rfl (.inl rfl)) (pgs_cons (pg_name (i := 9) sc__law_due.nd rfl (.inl rfl)) pgs_nil)))) (fun _ _ _ _ _ => pts_nil) (fun _ _ _ _ _ => (pe_tup (pa_cons (pv 6) (pa_cons (pe_callO O__law_plain (hr.mono (by omega)) (by rfl) (pa_cons (pv 2) (pa_cons (pv 3) (pa_cons (pe_op (show OpR _ (binaryOp .Add) (rCatB K) from op_catB) (pv 9) (pv 8)) pa_nil)))) pa_nil))))) pa_nil)))
      (pss_one (ps_ret (pe_tup (pa_cons (pv 2) (pa_cons (pv 3) (pa_cons (pe_callO O__law_plain (hr.mono (by omega)) (by rfl) (pa_cons (pv 2) (pa_cons (pv 3) (pa_cons (pe_op op_catB (pv 4) (pv 8)) pa_nil)))) (pa_cons (pv 10) pa_nil))))))))))), ?_⟩
    refine ⟨.ref s', rfl, s', _, rfl, ha, rfl, _, _, rfl, _, _, rfl, _, _, rfl, _, _, rfl, rfl, ?_⟩
    refine ⟨.ref a, rfl, a, rfl, ⟨_, hA⟩, fun D nD => lc_it (walk_tup (K := K) (a := a) (xs := ws)) (fun i H' => Same H H' ∧ ∃ vs, H' D = some (.lst vs) ∧ vs.length = i ∧ DpAll K H' vs ((rowsC (cs.take i)).map rowD)) ⟨same_upd nD, [], upd_same, rfl, .nil⟩ (fun i H' _ hP => Same.tup hP.1 hA) (fun i y H6 H7 hi hP hY => ?_) (fun H6 hP => ?_)⟩
    · obtain ⟨rfl, hx⟩ := hY
      obtain ⟨s6, vs, eD, lv, dv⟩ := hP
      obtain ⟨d', gd', _, hd'⟩ := dpAll_get (dpAll_same s6 _ _ dA) hx
      rw [List.getElem?_map] at gd'
      obtain ⟨z, gz, rfl⟩ := Option.map_eq_some_iff.mp gd'
      obtain ⟨b, r, rfl, hb, hr3⟩ := dp_call80 hd'
      have er : rowsC (cs.take (i + 1)) = rowsC (cs.take i) ++ [z.2] := by
        unfold rowsC
        rw [List.take_add_one, gz, List.map_append]
        rfl
      have hi : i < ws.length := hi
      have tk : Tk H7 (upd H7 D (.lst (vs ++ [.ref r]))) := (Tk.refl _).mut eD
      refine ⟨b, _, rfl, hb, rfl, _, _, rfl, _, _, rfl, rfl, rfl, .ref r, rfl, vs, eD, small1000 (by omega), same_mut s6 nD, vs ++ [.ref r], upd_same, by rw [List.length_append, lv]; rfl, ?_⟩
      rw [er, List.map_append]
      exact dpAll_append (dpAll_tk tk _ _ (noL_rows _) dv) (.cons (row_dp (tk _ _ _ hr3)) .nil)
    · obtain ⟨s6, vs, eD, lv, dv⟩ := hP
      rw [List.take_of_length_le (by omega)] at dv
      refine ⟨D, _, rfl, .inl ⟨.inl (.inl eD), fun R nR => ?_⟩⟩
      generalize hR : upd H6 R _ = H7
      obtain ⟨s7, e7⟩ := new_of hR nR
      have s07 := s6.trans s7
      have lvs := rows_len dv
      have dv7 := dpAll_same s7 _ _ dv
      have hg7 := Same.tup s07 hg
      have R7 : SqT K H7 R vs := .inl (.inl e7)
      refine ⟨.ref g, rfl, g, rfl, ⟨_, hg7⟩, fun D2 nD2 => lc_it (walk_tup (K := K) (a := g) (xs := wg)) (fun i H' => Same H7 H' ∧ ∃ us, H' D2 = some (.lst us) ∧ us.length = i ∧ DpAll K H' us ((lastH p n (rowsC cs) (hs.take i)).map handD)) ⟨same_upd nD2, [], upd_same, rfl, .nil⟩ (fun i H' _ hP => Same.tup hP.1 hg7) (fun i y H8 H9 hi hP hY => ?_) (fun H8 hP => ?_)⟩
      · obtain ⟨rfl, hy⟩ := hY
        obtain ⟨s8, us, eD2, lu, du⟩ := hP
        obtain ⟨o, r, z, rfl, gz, mz, ho, hr6⟩ := dpAll_hand (dpAll_same (s07.trans s8) _ _ dg) hy
        obtain ⟨wr, hr1, dr1⟩ := hr6
        have hi : i < wg.length := hi
        have phz := S.ph z mz
        have lz := PFR.len F phz
        have lwr := rows_len dr1
        have okz := rowsOk_app phz.1 okc
        refine ⟨o, _, rfl, ho, rfl, _, _, rfl, _, _, rfl, rfl, rfl, .str z.1, rfl, .int p, rfl, .int n, rfl, .ref r, rfl, .ref R, rfl, r, R, wr, vs, rfl, rfl, hr1, Same.tup s8 R7, Nat.le_of_lt (small1000 (by omega)), fun c H10 s10 h10 => ?_⟩
        have d10 : DpAll K H10 (wr ++ vs) ((z.2 ++ rowsC cs).map rowD) := by
          rw [List.map_append]
          exact dpAll_append (dpAll_same s10 _ _ dr1) (dpAll_same (s8.trans s10) _ _ dv7)
        refine ⟨c, _, z.2 ++ rowsC cs, p, n, rfl, h10, d10, by rw [List.length_append]; omega, okz, F, p1, by omega, fun H11 l11 w11 s11 e11 d11 => ?_⟩
        refine ⟨Nat.le_of_lt (small1000 (show 2 ≤ 1000 by decide)), fun o9 n9 => ?_⟩
        dsimp only
        generalize h9 : upd H11 o9 _ = H12
        obtain ⟨s12, e12⟩ := new_of h9 n9
        have s8c := s10.trans (s11.trans s12)
        have eD9 := s8c _ _ eD2
        have tk : Tk H12 (upd H12 D2 (.lst (us ++ [.ref o9]))) := (Tk.refl _).mut eD9
        refine ⟨us, eD9, small1000 (by omega), same_mut (s8.trans s8c) nD2, us ++ [.ref o9], upd_same, by rw [List.length_append, lu]; rfl, ?_⟩
        unfold lastH at du ⊢
        rw [List.take_add_one, gz, List.map_append, List.map_append]
        refine dpAll_append (dpAll_tk ((Tk.of s8c).trans tk) _ _ (noL_hands _) du) (.cons (.tup (xs := [.str z.1, .ref l11]) (tk _ _ _ (.inl (.inl e12))) (.cons (.str z.1) (.cons (.tup (tk _ _ _ (Same.tup s12 (.inl (.inl e11)))) (dpAll_tk ((Tk.of s12).trans tk) _ _ (noL_rows _) d11)) .nil))) .nil)
      · obtain ⟨s8, us, eD2, lu, du⟩ := hP
        rw [List.take_of_length_le (by omega)] at du
        refine ⟨D2, _, rfl, .inl ⟨.inl (.inl eD2), fun G nG => ?_⟩⟩
        generalize hG : upd H8 G _ = H9
        obtain ⟨s9, e9⟩ := new_of hG nG
        obtain ⟨wk, hk1, dk1⟩ := hk
        have lwk := rows_len dk1
        have lkn := PFR.len F S.pk
        have s09 := s07.trans (s8.trans s9)
        refine ⟨.int p, rfl, .int n, rfl, .int p, rfl, .int n, rfl, .ref k, rfl, .ref R, rfl, k, R, wk, vs, rfl, rfl, Same.tup s09 hk1, Same.tup (s8.trans s9) R7, Nat.le_of_lt (small1000 (by omega)), fun c H10 s10 h10 => ?_⟩
        have d10 : DpAll K H10 (wk ++ vs) ((kn ++ rowsC cs).map rowD) := by
          rw [List.map_append]
          exact dpAll_append (dpAll_same (s09.trans s10) _ _ dk1) (dpAll_same (s8.trans (s9.trans s10)) _ _ dv7)
        refine ⟨c, _, kn ++ rowsC cs, p, n, rfl, h10, d10, by rw [List.length_append]; omega, rowsOk_app S.pk.1 okc, F, p1, by omega, fun H11 l11 w11 s11 e11 d11 => ?_⟩
        refine ⟨.ref G, rfl, Nat.le_of_lt (small1000 (show 4 ≤ 1000 by decide)), fun o9 n9 => ?_⟩
        generalize h9 : upd H11 o9 _ = H12
        obtain ⟨s12, e12⟩ := new_of h9 n9
        have s9c := s10.trans (s11.trans s12)
        exact q H12 o9 (s09.trans s9c) (.tup (.inl (.inl e12)) (.cons (.int p) (.cons (.int n) (.cons (.tup (Same.tup s12 (.inl (.inl e11))) (dpAll_same s12 _ _ d11)) (.cons (.tup (Same.tup s9c (.inl (.inl e9))) (dpAll_same (s9.trans s9c) _ _ du)) .nil)))))
/-- a moment behind calls alone -/
def momA (p : Int) (n : Nat) (hs : List (Str × List (List Int))) (A : List (List Int)) : Mom := ⟨p, n, A, hs.map fun h => (h.1, h.2 ++ A)⟩
theorem momA_nil {p : Int} {n : Nat} {hs : List (Str × List (List Int))} : momA p n hs [] = ⟨p, n, [], hs⟩ := by
  unfold momA
  congr 1
  refine (List.map_congr_left (g := id) fun h _ => ?_).trans (List.map_id _)
  rw [List.append_nil]
  rfl
theorem momA_call {p : Int} {n : Nat} {hs : List (Str × List (List Int))} {A : List (List Int)} {r : List Int} : callM (momA p n hs A) r = momA p n hs (A ++ [r]) := by
  unfold callM momA
  congr 1
  rw [List.map_map]
  refine List.map_congr_left fun h _ => ?_
  show (h.1, (h.2 ++ A) ++ [r]) = _
  rw [List.append_assoc]
theorem momA_names {p : Int} {n : Nat} {hs : List (Str × List (List Int))} {A : List (List Int)} : (momA p n hs A).hands.map Prod.fst = hs.map Prod.fst := by
  unfold momA
  rw [List.map_map]
  rfl
theorem momA_ok {p : Int} {n : Nat} {kn : List (List Int)} {hs : List (Str × List (List Int))} {A : List (List Int)} (S : Stand5 p n kn hs) (h6 : hs.length ≤ 6) (ok : RowsOk p n A) : MomOk (8 + A.length) (momA p n hs A) where
  fld := S.fld
  p1 := S.p1
  n1 := S.n1
  n8 := S.n8
  okc := ok
  okh := fun h hh => by
    obtain ⟨x, mx, rfl⟩ := List.mem_map.mp hh
    exact rowsOk_app (S.ph x mx).1 ok
  inn := fun h hh r hr => by
    obtain ⟨x, mx, rfl⟩ := List.mem_map.mp hh
    exact InR.mem (List.mem_append_right _ hr)
  few := by
    show 2 ≤ (hs.map _).length
    rw [List.length_map]
    exact S.few
  many := by
    show (hs.map _).length ≤ 6
    rw [List.length_map]
    exact h6
  srt := by
    rw [momA_names]
    exact S.srt
  nd := by
    rw [momA_names]
    exact S.nd
  nm := by
    rw [momA_names]
    exact S.nm
  lc := by
    show A.length ≤ _
    omega
  lh := fun h hh => by
    obtain ⟨x, mx, rfl⟩ := List.mem_map.mp hh
    have := PFR.len S.fld (S.ph x mx)
    have := S.n8
    show (x.2 ++ A).length ≤ _
    rw [List.length_append]
    omega
theorem momA_heard {p : Int} {n : Nat} {hs : List (Str × List (List Int))} {A : List (List Int)} (nd : (hs.map Prod.fst).Nodup) {h : Str × List (List Int)} (mh : h ∈ hs) : heardM (momA p n hs A) [h.1] = h.2 ++ A := by
  unfold heardM
  rw [if_neg (by simp)]
  exact sel_one (h := (h.1, h.2 ++ A)) (hs := (momA p n hs A).hands) (by rw [momA_names]; exact nd) (List.mem_map.mpr ⟨h, mh, rfl⟩)
/-- how much more a hand knows -/
def szI (p : Int) (n : Nat) (h : Str × List (List Int)) (A : List (List Int)) : Int := ((plainR p n (h.2 ++ A)).length : Int)
theorem gainA {p : Int} {n : Nat} {hs : List (Str × List (List Int))} {A B : List (List Int)} (nd : (hs.map Prod.fst).Nodup) : gainL (momA p n hs A) (momA p n hs B) = (hs.map fun h => (h.1, szI p n h B - szI p n h A)).filter fun z => decide (z.2 > 0) := by
  unfold gainL
  rw [momA_names, List.map_map]
  congr 1
  refine List.map_congr_left fun h mh => ?_
  show (h.1, ((plainR p n (heardM (momA p n hs B) [h.1])).length : Int) - ((plainR p n (heardM (momA p n hs A) [h.1])).length : Int)) = _
  rw [momA_heard nd mh, momA_heard nd mh]
  rfl
theorem szI_mono {p : Int} {n : Nat} {h : Str × List (List Int)} {A B : List (List Int)} (F : Fld p) (okh : RowsOk p n h.2) (okA : RowsOk p n A) (okB : RowsOk p n B) (sub : ∀ r ∈ A, InR p B r) : szI p n h A ≤ szI p n h B := by
  unfold szI
  have := plain_mono F (rowsOk_app okh okA) (rowsOk_app okh okB) fun r hr => by
    rcases List.mem_append.mp hr with hr | hr
    · exact InR.mem (List.mem_append_left _ hr)
    · exact InR.mono (fun y hy => InR.mem (List.mem_append_right _ hy)) (sub r hr)
  omega
/-- a book of calls alone -/
structure BookL (p : Int) (n : Nat) (hs : List (Str × List (List Int))) (R : List (List Int)) (i : Nat) (q : BookS) : Prop where
  amid : q.amid = false
  lm : q.moms.length = i + 1
  ld : q.deeds.length = i
  mom : ∀ j ≤ i, q.moms[j]? = some (momA p n hs (R.take j))
  deed : ∀ j < i, ∃ x r, R[j]? = some r ∧ q.deeds[j]? = some (.call x r)
theorem BookL.push {p : Int} {n : Nat} {hs : List (Str × List (List Int))} {R : List (List Int)} {i : Nat} {q : BookS} (L : BookL p n hs R i q) {x : Str} {r : List Int} (g : R[i]? = some r) : BookL p n hs R (i + 1) (q.push (callM (momA p n hs (R.take i)) r) (.call x r)) where
  amid := L.amid
  lm := by
    show (q.moms ++ [_]).length = _
    rw [List.length_append, L.lm]
    rfl
  ld := by
    show (q.deeds ++ [_]).length = _
    rw [List.length_append, L.ld]
    rfl
  mom := fun j hj => by
    show (q.moms ++ [_])[j]? = _
    by_cases h : j ≤ i
    · rw [List.getElem?_append_left (by rw [L.lm]; omega)]
      exact L.mom j h
    · have : j = i + 1 := by omega
      subst this
      rw [List.getElem?_append_right (by rw [L.lm]; omega), L.lm, Nat.sub_self, momA_call, List.take_add_one, g]
      rfl
  deed := fun j hj => by
    show ∃ x r, _ ∧ (q.deeds ++ [_])[j]? = _
    by_cases h : j < i
    · rw [List.getElem?_append_left (by rw [L.ld]; exact h)]
      exact L.deed j h
    · have : j = i := by omega
      subst this
      refine ⟨x, r, g, ?_⟩
      rw [List.getElem?_append_right (by rw [L.ld]; omega), L.ld, Nat.sub_self]
      rfl
section
open PySem.W SeqAt
theorem lt_pairD {a b : Str × Int} (ne : a.1 ≠ b.1) (h : dataLt (pairD b) (pairD a) = false) : sl a.1 b.1 := by
  have hne : (Sum.inr b.1.cps.toList : Int ⊕ List Nat) ≠ Sum.inr a.1.cps.toList := fun z => by
    injection z with z
    exact ne (str_of_cps z).symm
  unfold dataLt pairD at h
  simp only [keyToks, keyToksAll, List.cons_append, List.nil_append] at h
  rw [lexS, lex_diff (O := itemOrd) hne] at h
  have h : decide (b.1.cps.toList < a.1.cps.toList) = false := h
  have h : ¬ (b.1.cps.toList < a.1.cps.toList) := of_decide_eq_false h
  have le : a.1.cps.toList ≤ b.1.cps.toList := h
  rcases Std.le_iff_lt_or_eq.mp le with h | h
  · exact h
  · exact absurd (str_of_cps h) ne
theorem put_nodup {κ : Type} [DecidableEq κ] {kvs : List (κ × V)} {k : κ} {v : V} (nd : (kvs.map Prod.fst).Nodup) : ((putK kvs k v).map Prod.fst).Nodup := by
  unfold putK
  split
  · have e : (kvs.map fun kv => if kv.1 = k then (kv.1, v) else kv).map Prod.fst = kvs.map Prod.fst := by
      rw [List.map_map]
      refine List.map_congr_left fun kv _ => ?_
      show (if kv.1 = k then (kv.1, v) else kv).1 = kv.1
      split <;> rfl
    rw [e]
    exact nd
  · rename_i h
    rw [List.map_append, List.nodup_append]
    refine ⟨nd, by simp, fun a ha b hb => ?_⟩
    have hb : b = k := by simpa using hb
    subst hb
    rintro rfl
    obtain ⟨kv, mkv, e⟩ := List.mem_map.mp ha
    exact h (List.any_eq_true.mpr ⟨kv, mkv, decide_eq_true e⟩)
theorem mem_put {κ : Type} [DecidableEq κ] {kvs : List (κ × V)} {k : κ} {v : V} {kv : κ × V} (h : kv ∈ putK kvs k v) : kv ∈ kvs ∨ kv = (k, v) := by
  unfold putK at h
  split at h
  · obtain ⟨y, my, rfl⟩ := List.mem_map.mp h
    by_cases e : y.1 = k
    · rw [if_pos e]
      exact .inr (by rw [e])
    · rw [if_neg e]
      exact .inl my
  · rcases List.mem_append.mp h with h | h
    · exact .inl h
    · exact .inr (by simpa using h)
theorem mem_val {κ : Type} [DecidableEq κ] {kvs : List (κ × V)} {k : κ} {v : V} (h : valV kvs k = some v) : (k, v) ∈ kvs := by
  unfold valV at h
  obtain ⟨kv, e, rfl⟩ := Option.map_eq_some_iff.mp h
  have m := List.mem_of_find?_eq_some e
  have := List.find?_some e
  have : kv.1 = k := of_decide_eq_true this
  subst this
  exact m
structure FoundAt (ns : List Str) (kvs : List (L2.Key × V)) (f : Str → Int) : Prop where
  nd : (kvs.map Prod.fst).Nodup
  sh : ∀ kv ∈ kvs, ∃ x z, kv = ((Sum.inr x : L2.Key), V.int z) ∧ 0 < z ∧ x ∈ ns
  vl : ∀ x ∈ ns, (valV kvs (Sum.inr x : L2.Key)).getD (.int 0) = .int (f x)
theorem FoundAt.start {ns : List Str} : FoundAt ns [] fun _ => 0 := ⟨List.nodup_nil, fun kv h => (nomatch h), fun x _ => rfl⟩
theorem FoundAt.congr {ns : List Str} {kvs : List (L2.Key × V)} {f g : Str → Int} (h : FoundAt ns kvs f) (e : ∀ x ∈ ns, f x = g x) : FoundAt ns kvs g := ⟨h.nd, h.sh, fun x mx => by rw [h.vl x mx, e x mx]⟩
theorem FoundAt.put {ns : List Str} {kvs : List (L2.Key × V)} {f : Str → Int} {x : Str} {g : Int} (h : FoundAt ns kvs f) (mx : x ∈ ns) (f0 : 0 ≤ f x) (g0 : 0 < g) : FoundAt ns (putK kvs (Sum.inr x : L2.Key) (.int (f x + g))) fun y => if y = x then f x + g else f y where
  nd := put_nodup h.nd
  sh := fun kv hkv => by
    rcases mem_put hkv with hkv | rfl
    · exact h.sh kv hkv
    · exact ⟨x, _, rfl, by omega, mx⟩
  vl := fun y my => by
    rw [valV_put]
    by_cases e : y = x
    · subst e
      rw [if_pos rfl, if_pos rfl]
      rfl
    · rw [if_neg (fun z => e (Sum.inr.inj z)), if_neg e]
      exact h.vl y my
theorem FoundAt.sort {ns : List Str} {kvs : List (L2.Key × V)} {f : Str → Int} (h : FoundAt ns kvs f) (f0 : ∀ x ∈ ns, 0 ≤ f x) (srt : ns.Pairwise sl) (K : PySem.W.Frag) (H : Hp) : ∃ ds : List (Str × PyData), Paired (fun (kv : L2.Key × V) (d : Str × PyData) => kv.1 = Sum.inr d.1 ∧ Dp K H kv.2 d.2) kvs ds ∧ AllAlike (ds.map pairT) ∧ SortableE (ds.map pairT) ∧ (∀ d ∈ ds, (pairT d).depth ≤ 8) ∧ (ds.map pairT).mergeSort (dataLe false id) = ((ns.map fun x => (x, f x)).filter fun z => decide (z.2 > 0)).map pairD := by
  obtain ⟨gs, eg⟩ : ∃ gs : List (Str × Int), kvs = gs.map fun d => ((Sum.inr d.1 : L2.Key), V.int d.2) := by
    have sh := h.sh
    clear h
    induction kvs with
    | nil => exact ⟨[], rfl⟩
    | cons kv kvs ih =>
      obtain ⟨gs, e⟩ := ih fun y hy => sh y (List.mem_cons_of_mem _ hy)
      obtain ⟨x, z, ekv, _⟩ := sh kv List.mem_cons_self
      exact ⟨(x, z) :: gs, by rw [e, ekv]; rfl⟩
  have em : ((gs.map fun d => (d.1, PyData.int d.2)).map pairT) = gs.map pairD := by
    rw [List.map_map]
    rfl
  refine ⟨gs.map fun d => (d.1, .int d.2), ?_, ?_, ?_, ?_, ?_⟩
  · rw [eg]
    clear em eg
    induction gs with
    | nil => exact .nil
    | cons d gs ih => exact .cons ⟨rfl, .int d.2⟩ ih
  · rw [em]
    intro x hx y hy
    obtain ⟨a, _, rfl⟩ := List.mem_map.mp hx
    obtain ⟨b, _, rfl⟩ := List.mem_map.mp hy
    rfl
  · rw [em]
    exact .inl (.inl fun d hd => by
      obtain ⟨h, _, rfl⟩ := List.mem_map.mp hd
      exact ⟨_, _, rfl⟩)
  · intro d hd
    obtain ⟨z, _, rfl⟩ := List.mem_map.mp hd
    simp [pairT, PyData.depth, PyData.depthAll]
  · rw [em, sort_map]
    congr 1
    have ndg : (gs.map Prod.fst).Nodup := by
      have := h.nd
      rw [eg, List.map_map] at this
      have e : (gs.map (Prod.fst ∘ fun d : Str × Int => ((Sum.inr d.1 : L2.Key), V.int d.2))) = (gs.map Prod.fst).map Sum.inr := by
        rw [List.map_map]
        rfl
      rw [e] at this
      exact (List.pairwise_map.mp this).imp fun {a b} h z => h (by rw [z])
    have pm := List.mergeSort_perm gs (dataLe false pairD)
    refine strict_ext (R := fun a b : Str × Int => sl a.1 b.1) (fun a => sl_irr a.1) (fun a b => sl_asym) ?_ ?_ fun z => ?_
    · have pw := sort_pairwise (sortLe_total (listOrd itemOrd) false fun b => keyToks (pairD b)) gs
      have pw : (gs.mergeSort (dataLe false pairD)).Pairwise fun a b => dataLe false pairD a b = true := pw
      have nd' : ((gs.mergeSort (dataLe false pairD)).map Prod.fst).Nodup := (pm.map Prod.fst).nodup_iff.mpr ndg
      have nd2 : (gs.mergeSort (dataLe false pairD)).Pairwise fun a b => a.1 ≠ b.1 := List.pairwise_map.mp nd'
      refine (pw.and nd2).imp fun {a b} h => lt_pairD h.2 ?_
      have := h.1
      rw [dataLe_eq] at this
      simpa using this
    · exact List.Pairwise.filter _ (List.pairwise_map.mpr (srt.imp fun {a b} h => h))
    · rw [pm.mem_iff, List.mem_filter, List.mem_map]
      constructor
      · intro hz
        have mk : ((Sum.inr z.1 : L2.Key), V.int z.2) ∈ kvs := by
          rw [eg]
          exact List.mem_map.mpr ⟨z, hz, rfl⟩
        obtain ⟨x, w, e, w0, mx⟩ := h.sh _ mk
        obtain ⟨e1, e2⟩ := Prod.mk.inj e
        have e1 := Sum.inr.inj e1
        have e2 : z.2 = w := V.int.inj e2
        have v := h.vl z.1 (by rw [e1]; exact mx)
        rw [val_mem h.nd mk] at v
        have v : z.2 = f z.1 := V.int.inj v
        exact ⟨⟨z.1, by rw [e1]; exact mx, by rw [← v]⟩, decide_eq_true (by omega)⟩
      · rintro ⟨⟨x, mx, rfl⟩, pz⟩
        have pz : f x > 0 := of_decide_eq_true pz
        have v := h.vl x mx
        cases hv : valV kvs (Sum.inr x : L2.Key) with
        | none =>
          rw [hv] at v
          have v : (0 : Int) = f x := V.int.inj v
          omega
        | some y =>
          rw [hv] at v
          have v : y = V.int (f x) := v
          subst v
          have m := mem_val hv
          rw [eg] at m
          obtain ⟨d, md, e⟩ := List.mem_map.mp m
          obtain ⟨e1, e2⟩ := Prod.mk.inj e
          have e1 : d.1 = x := Sum.inr.inj e1
          have e2 : d.2 = f x := V.int.inj e2
          have : d = (x, f x) := Prod.ext e1 e2
          rw [← this]
          exact md
end
end
end OC
set_option Elab.async false
set_option linter.all false
set_option maxRecDepth 100000
set_option maxHeartbeats 4000000
namespace OC
open PySem PySem.Spec PyProof.Rows L2
section
variable {P : Program} {w : World} {K : PySem.W.Frag} {mg : Str → Option Value} {base : Heap}
theorem sl_of {l : List Str} (s : sortedS l = true) (nd : l.Nodup) : l.Pairwise sl := by
  refine ((pw_sorted l s).and nd).imp fun {a b} h => ?_
  show a.cps.toList < b.cps.toList
  refine Decidable.byContradiction fun z => h.2 ?_
  exact PySem.W.str_of_cps (List.le_antisymm h.1 (List.not_lt.mp z))
theorem same_xc {b : Addr} {H H1 H2 : Hp} (s : Same H H1) (x : Xc b H1 H2) (nb : H b = none) : Same H H2 := fun a o e => x a o (s a o e) fun z => by rw [z, nb] at e; cases e
theorem tk_dK80 {H : Hp} {D : Addr} {u : HO} {kvs : List (L2.Key × V)} (h : H D = some (.dK kvs)) : Tk H (upd H D u) := fun K a xs q => by
  have ne : ∀ {w : HO}, H a = some w → (∀ k, w ≠ .dK k) → a ≠ D := fun {w} e n z => by
    rw [z, h] at e
    exact n kvs (Option.some.inj e).symm
  rcases q with (q | ⟨o, q⟩) | q
  · exact .inl (.inl (by rw [upd_ne (ne q fun k z => nomatch z)]; exact q))
  · exact .inl (.inr ⟨o, by rw [upd_ne (ne q fun k z => nomatch z)]; exact q⟩)
  · exact .inr q
theorem mv_dK80 {mg : Str → Option Value} {H : Hp} {D : Addr} {u : HO} {kvs : List (L2.Key × V)} (h : H D = some (.dK kvs)) : Mv mg H (upd H D u) := ⟨fun K a xs q => tk_dK80 h K a xs q, fun a dx' p n c h' e' => by
  have : a ≠ D := fun z => by
    rw [z, h] at e'
    cases e'
  rw [upd_ne this]
  exact e'⟩
theorem dp_pair80 {K : PySem.W.Frag} {H : Hp} {v : V} {z : Str × Int} (h : Dp K H v (pairD z)) : ∃ b : Addr, v = .ref b ∧ SqT K H b [.str z.1, .int z.2] := by
  unfold pairD at h
  cases h with
  | tup h1 h2 =>
    cases h2 with
    | cons h3 h4 =>
      cases h4 with
      | cons h5 h6 =>
        cases h6
        cases h3
        cases h5
        exact ⟨_, rfl, h1⟩
theorem idle_count {p : Int} {n : Nat} {hs : List (Str × List (List Int))} {R : List (List Int)} {q : BookS} {i : Nat} (F : Fld p) (ok : RowsOk p n R) (L : BookL p n hs R i q) (hi : i = R.length) : (idleR q).length + (plainR p n R).length = q.deeds.length := by
  have okt : ∀ j, RowsOk p n (R.take j) := fun j r hr => ok r (List.mem_of_mem_take hr)
  have step : ∀ j ≤ i, ((List.range j).filter (idleAt q)).length + (plainR p n (R.take j)).length = j := fun j => by
    induction j with
    | zero =>
      intro _
      rw [List.take_zero, plainR_nil]
      rfl
    | succ j ih =>
      intro hj
      have ih := ih (by omega)
      obtain ⟨x, r, gr, gd⟩ := L.deed j (by omega)
      have okr : RowsOk p n [r] := rowsOk_one (ok r (List.mem_of_getElem? gr))
      have ei : idleAt q j = hasR p n (plainR p n (R.take j)) r := by
        unfold idleAt
        rw [gd, L.mom j (by omega)]
        rfl
      have e1 : (plainR p n (plainR p n (R.take j))).length = (plainR p n (R.take j)).length := by rw [(PFR.of_plain F (okt j)).2]
      have e2 : R.take (j + 1) = R.take j ++ [r] := by
        rw [List.take_add_one, gr]
        rfl
      have e3 := len_app_le F (okt j) (ys := [r]) okr
      have e4 := plain_app_le F [r] (R.take j) (okt j) okr
      have e3 : (plainR p n (R.take j ++ [r])).length ≤ (plainR p n (R.take j)).length + 1 := e3
      have hh : hasR p n (plainR p n (R.take j)) r = decide ((plainR p n (R.take j ++ [r])).length = (plainR p n (R.take j)).length) := by
        unfold hasR
        rw [plainR_app F (okt j) okr, e1]
      rw [List.range_succ, List.filter_append, List.length_append, e2]
      by_cases h : (plainR p n (R.take j ++ [r])).length = (plainR p n (R.take j)).length
      · rw [List.filter_cons_of_pos (by rw [ei, hh]; exact decide_eq_true h)]
        show _ + 1 + _ = _
        omega
      · rw [List.filter_cons_of_neg (by rw [ei, hh]; simpa using h)]
        show _ + 0 + _ = _
        omega
  have := step i (Nat.le_refl _)
  rw [hi, List.take_length] at this
  unfold idleR
  rw [L.ld, hi]
  exact this
def learnP (p : Int) (n : Nat) (kn : List (List Int)) (hs : List (Str × List (List Int))) (rows : List (List Int)) : List (Str × Int) := (hs.map fun h => (h.1, szI p n h (kn ++ rows) - szI p n h kn)).filter fun z => decide (z.2 > 0)
def sp_learned80 (K : PySem.W.Frag) : Sp := fun vs H Q _ => ∃ (s a : Addr) (p : Int) (n : Nat) (kn : List (List Int)) (hs : List (Str × List (List Int))) (ws : List V) (cs : List (Str × List Int)), vs = [.ref s, .ref a] ∧ Dp K H (.ref s) (standD p n kn hs) ∧ Stand5 p n kn hs ∧ hs.length ≤ 6 ∧ SqT K H a ws ∧ DpAll K H ws (cs.map callD) ∧ CallsIn p n hs cs ∧ cs.length ≤ 7 ∧
  ∀ H' l, Same H H' → Dp K H' (.ref l) (.list [.list ((learnP p n kn hs (rowsC cs)).map pairD), .int ((plainR p n (kn ++ rowsC cs)).length : Int)]) → Q (.ref l) H'
theorem ok__law_learned (T : Top K mg) (W : StepsW w K mg) : Ok P w K mg base 13 "_law_learned" ["_law_stand_here", "_law_calls_here"] (sp_learned80 K) := by
  have O__law_has := ok__law_has (P := P) (w := w) (base := base) T
  have O_Book___init__ := ok_Book___init__ (P := P) (w := w) (base := base) T
  have O_Book___len__ := ok_Book___len__ (P := P) (w := w) (base := base) T
  have O_Book_call := ok_Book_call (P := P) (w := w) (base := base) T W
  have O_Book_learned := ok_Book_learned (P := P) (w := w) (base := base) T
  have O_Book_idle := ok_Book_idle (P := P) (w := w) (base := base) T
  refine T.d__law_learned.ok sc__law_learned (fun vs H Q E h => ?_) (fun f cdv A outer s H vs Q E hr h => ?_)
  · obtain ⟨s, a, p, n, kn, hs, ws, cs, rfl, _⟩ := h
    rfl
  · obtain ⟨s', a, p, n, kn, hs, ws, cs, rfl, dp, S, h6, hA, dA, cin, lcs, q⟩ := h
    obtain ⟨_, k, g, wg, es, ha, hk, hg, dg⟩ := dp_stand dp
    cases es
    have la := dpAll_len dA
    rw [List.length_map] at la
    have lg := dpAll_len dg
    rw [List.length_map] at lg
    have okc := cin.rows
    have lrc : (rowsC cs).length = cs.length := List.length_map ..
    have F := S.fld
    have p1 := S.p1
    have n8 := S.n8
    have few := S.few
    have lkn := PFR.len F S.pk
    generalize hR : kn ++ rowsC cs = R at q
    have okR : RowsOk p n R := by
      rw [← hR]
      exact rowsOk_app S.pk.1 okc
    refine ⟨_, ((pss_cons (ps_asg (pv 0) (pg_tup (by rfl) (pgs_cons (pg_name (i := 2) sc__law_learned.nd rfl (.inr rfl)) (pgs_cons (pg_name (i := 3) sc__law_learned.nd rfl (.inr rfl)) (pgs_cons (pg_name (i := 4) sc__law_learned.nd rfl (.inl rfl)) (pgs_cons (pg_name (i := 5) sc__law_learned.nd rfl (.inl rfl)) pgs_nil))))))
      (pss_cons (ps_set (i := 6) sc__law_learned.nd rfl (.inl rfl) (pe_makeO O_Book___init__ T.k_Book (hr.mono (by omega)) (by rfl) (pa_cons (pv 2) (pa_cons (pv 3) (pa_cons (pv 5) pa_nil)))))
      (pss_cons (ps_for PassesOwn.never (by rfl) (pi_tup (pv 4)) (pg_name (i := 7) sc__law_learned.nd rfl (.inr rfl))
        (pss_one (ps_expr (pe_methO O_Book_call T.k_Book (hr.mono (by omega)) (pv 6) (pa_cons (pe_ix ix_list (pe_lc (own := [("_law_name", 8), ("_law_room", 9)]) (g := gTup K 2 (gCons (gName 8) (gCons (gName 9) gNil))) (by rfl) sc__law_learned.nd (pi_tup (pv 5)) (blkOk_by (own := [("_law_name", 8), ("_law_room", 9)]) (N := N__law_learned) (sc := defScope s__law_learned) (by decide +kernel)) (fun _ _ _ _ _ => (pg_tup (by rfl) (pgs_cons (pg_name (i := 8) sc__law_learned.nd rfl (.inl rfl)) (pgs_cons (pg_name (i := 9) sc__law_learned.nd rfl (.inl rfl)) pgs_nil)))) (fun _ _ _ _ _ => (pts_one (pt_val (pe_callO O__law_has (hr.mono (by omega)) (by rfl) (pa_cons (pv 2) (pa_cons (pv 3) (pa_cons (pv 9) (pa_cons (pv 7) pa_nil)))))))) (fun _ _ _ _ _ => (pv 8))) pe_int (fun _ _ => rfl)) (pa_cons (pv 7) pa_nil))))))
      (pss_cons (ps_set (i := 10) sc__law_learned.nd rfl (.inl rfl) pe_dnewK)
      (pss_cons (ps_for PassesOwn.never (by rfl) (pi_tup (pv 1)) (pg_tup (by rfl) (pgs_cons (pg_name (i := 8) sc__law_learned.nd rfl (.inl rfl)) (pgs_cons (pg_name (i := 7) sc__law_learned.nd rfl (.inr rfl)) pgs_nil)))
        (pss_one (ps_expr (pe_methO O_Book_call T.k_Book (hr.mono (by omega)) (pv 6) (pa_cons (pv 8) (pa_cons (pv 7) pa_nil))))))
      (pss_cons (ps_for PassesOwn.never (by rfl) (pi_range2 (by rfl) T.b_range (pa_cons (pe_callB call_len_seq (by rfl) T.b_len (by decide +kernel) (pa_cons (pv 4) pa_nil)) (pa_cons (pe_callB (call_lenM O_Book___len__ (hr.mono (by omega))) (by rfl) T.b_len (by decide +kernel) (pa_cons (pv 6) pa_nil)) pa_nil))) (pg_name (i := 11) sc__law_learned.nd rfl (.inl rfl))
        (pss_one (ps_for PassesOwn.never (by rfl) (pi_tup (pe_methO O_Book_learned T.k_Book (hr.mono (by omega)) (pv 6) (pa_cons (pv 11) pa_nil))) (pg_tup (by rfl) (pgs_cons (pg_name (i := 8) sc__law_learned.nd rfl (.inl rfl)) (pgs_cons (pg_name (i := 12) sc__law_learned.nd rfl (.inl rfl)) pgs_nil)))
          (pss_one (ps_dput (units1 hr) (pv 10) (pv 8) (pe_op op_add (pe_bm PySem.F.plainAttrs_dict PySem.F.slot_dict_get PySem.F.type_dict_get (mt_getK (units1 hr)) (pv 10) (pa_cons (pv 8) (pa_cons pe_int pa_nil))) (pv 12)) (by rfl))))))
      (pss_one (ps_ret (pe_lst (pa_cons (pe_callB (cr_sortIK (by rfl) hr) (by rfl) T.b_sorted (by decide +kernel) (pa_cons (pe_bm0 PySem.F.plainAttrs_dict PySem.F.slot_dict_items PySem.F.type_dict_items mt_itemsK (pv 10)) pa_nil)) (pa_cons (pe_op op_sub (pe_callB (call_lenM O_Book___len__ (hr.mono (by omega))) (by rfl) T.b_len (by decide +kernel) (pa_cons (pv 6) pa_nil)) (pe_callB call_len_seq (by rfl) T.b_len (by decide +kernel) (pa_cons (pe_methO0 O_Book_idle T.k_Book (hr.mono (by omega)) (pv 6)) pa_nil))) pa_nil)))))))))))), ?_⟩
    refine ⟨.ref s', rfl, s', _, rfl, ha, rfl, _, _, rfl, _, _, rfl, _, _, rfl, _, _, rfl, rfl, ?_⟩
    refine ⟨.int p, rfl, .int (n : Int), rfl, .ref g, rfl, fun b dx nb ndx ne => ?_⟩
    generalize hB : upd (upd H dx (.own b)) b _ = HB
    have sB : Same H HB := fun z o e => by
      have n1 : z ≠ b := fun y => by rw [y, nb] at e; cases e
      have n2 : z ≠ dx := fun y => by rw [y, ndx] at e; cases e
      rw [← hB, upd_ne n1, upd_ne n2]
      exact e
    have eB : HB b = some (.ins (adr mg "Book") dx []) := by rw [← hB]; exact upd_same
    refine ⟨b, dx, g, p, n, hs, rfl, eB, dp_same sB _ _ (.tup hg dg), fun H2 x2 B2 => ⟨rfl, ?_⟩⟩
    have s2 : Same H H2 := same_xc sB x2 nb
    have LB0 : BookL p n hs R 0 ⟨.tuple [.int p, .int (n : Int), .tuple (hs.map handD)], [⟨p, n, [], hs⟩], [], [], false⟩ := ⟨rfl, rfl, rfl, fun j hj => by
      obtain rfl : j = 0 := by omega
      rw [List.take_zero, momA_nil]
      rfl, fun j hj => by omega⟩
    obtain ⟨wk, hk1, dk1⟩ := hk
    have lwk := rows_len dk1
    -- a call into the book
    have mh0 : ∃ h0, hs[0]? = some h0 := ⟨_, List.getElem?_eq_getElem (by omega)⟩
    obtain ⟨h0, gh0⟩ := mh0
    have okt : ∀ i, RowsOk p n (R.take i) := fun i r hr => okR r (List.mem_of_mem_take hr)
    have M_ : ∀ i, i ≤ 20 → MomOk 900 (momA p n hs (R.take i)) := fun i hi => (momA_ok S h6 (okt i)).mono (by rw [List.length_take]; omega)
    have has_ : ∀ (i : Nat) (h : Str × List (List Int)) (row : List Int), i ≤ 20 → h ∈ hs → RowsOk p n [row] → InR p h.2 row → hasR p n (plainR p n (heardM (momA p n hs (R.take i)) [h.1])) row = true := fun i h row hi mh ok hin => has_one (M_ i hi) ok (h := (h.1, h.2 ++ R.take i)) (List.mem_map.mpr ⟨h, mh, rfl⟩) (InR.mono (fun y hy => InR.mem (List.mem_append_left _ hy)) hin)
    have nm_ : ∀ (i : Nat) (h : Str × List (List Int)), h ∈ hs → h.1 ∈ (momA p n hs (R.take i)).hands.map Prod.fst := fun i h mh => by
      rw [momA_names]
      exact List.mem_map_of_mem mh
    have lR : R.length = kn.length + cs.length := by rw [← hR, List.length_append, lrc]
    refine ⟨.ref k, rfl, k, rfl, ⟨_, Same.tup s2 hk1⟩, for_it (walk_tup (K := K) (a := k) (xs := wk)) (fun i σ H' => Same H H' ∧ ∃ (qb : BookS) (y7 : Option V), BookAt K mg H' b qb ∧ BookL p n hs R i qb ∧ σ = [some (.ref s'), some (.ref a), some (.int p), some (.int (n : Int)), some (.ref k), some (.ref g), some (.ref b), y7, none, none, none, none, none]) ⟨s2, _, none, B2, LB0, rfl⟩ (fun i σ H' _ hW => Same.tup hW.1 hk1) (fun i v σ H3 H4 hi hW hY => ?_) (fun σ H3 hW => ?_)⟩
    · obtain ⟨rfl, hx⟩ := hY
      obtain ⟨s3, qb, y7, B3, L3, rfl⟩ := hW
      obtain ⟨r, row, rfl, gr, mr, hrow⟩ := dpAll_row (dpAll_same s3 _ _ dk1) hx
      have okr : RowsOk p n [row] := rowsOk_one (S.pk.rows row mr)
      have gR : R[i]? = some row := by
        rw [← hR, List.getElem?_append_left (by omega)]
        exact gr
      have hgB := Same.tup s3 hg
      have dgB := dpAll_same s3 _ _ dg
      obtain ⟨dxb, fs, eb, nf⟩ := B3.at_
      refine ⟨.ref b, rfl, b, dxb, _, rfl, eb, nf _ (by decide +kernel) (by decide +kernel) (by decide +kernel) (by decide +kernel) (by decide +kernel), ?_⟩
      refine ⟨.ref g, rfl, g, rfl, ⟨_, hgB⟩, fun N nN => lc_it (walk_tup (K := K) (a := g) (xs := wg)) (fun i H' => Same H4 H' ∧ H' N = some (.lst (((hs.take i).map Prod.fst).map V.str))) ⟨same_upd nN, upd_same⟩ (fun i H' _ hP => Same.tup hP.1 hgB) (fun j y H5 H6 hj hP hY => ?_) (fun H5 hP => ?_)⟩
      · obtain ⟨rfl, hy⟩ := hY
        obtain ⟨s5, eN⟩ := hP
        obtain ⟨o, r2, z, rfl, gz, mz, ho, hr6⟩ := dpAll_hand (dpAll_same s5 _ _ dgB) hy
        obtain ⟨wr, hr1, dr1⟩ := hr6
        have phz := S.ph z mz
        have lz := PFR.len F phz
        refine ⟨o, _, rfl, ho, rfl, _, _, rfl, _, _, rfl, rfl, rfl, .int p, rfl, .int n, rfl, .ref r2, rfl, .ref r, rfl, r2, r, wr, z.2, row, p, n, rfl, hr1, dr1, Same.tup s5 hrow, by omega, phz.rows, okr, F, p1, by omega, fun H8 s8 => ?_⟩
        have hin := (hasR_in F phz.1 okr).mpr (S.inn z mz row mr)
        rw [hin]
        have eN8 := s8 _ _ eN
        have hj : j < wg.length := hj
        refine ⟨true, rfl, iteT ?_⟩
        refine ⟨.str z.1, rfl, _, eN8, small1000 (by rw [List.length_map, List.length_map, List.length_take]; omega), same_mut (s5.trans s8) nN, ?_⟩
        rw [upd_same, List.take_add_one, gz, List.map_append, List.map_append]
        rfl
      · obtain ⟨s5, eN⟩ := hP
        rw [List.take_of_length_le (by omega)] at eN
        have mh := List.mem_of_getElem? gh0
        refine ⟨N, _, 0, .str h0.1, rfl, rfl, .inl (.inl eN), atI_nat (j := 0) (by rw [List.getElem?_map, List.getElem?_map, gh0]; rfl), .ref r, rfl, ?_⟩
        have hi : i < wk.length := hi
        have ldq := L3.ld
        have lmq := L3.lm
        refine ⟨b, r, qb, h0.1, row, momA p n hs (R.take i), rfl, B3.same s5, L3.amid, by omega, by rw [lmq]; exact L3.mom i (Nat.le_refl _), M_ i (by omega), Same.tup s5 hrow, okr, nm_ i h0 mh, has_ i h0 row (by omega) mh okr (S.inn h0 mh row mr), fun H6 x6 B6 => ?_⟩
        exact ⟨same_xc (s3.trans s5) x6 nb, _, _, B6, L3.push gR, rfl⟩
    · obtain ⟨s3, qb, y7, B3, L3, rfl⟩ := hW
      intro D nD
      generalize hD : upd H3 D _ = H4
      obtain ⟨s4, eD⟩ := new_of hD nD
      have B4 := B3.same s4
      obtain ⟨dx4, fs4, eb4, _⟩ := B3.at_
      have bD : D ≠ b := fun z => by
        rw [z, eb4] at nD
        cases nD
      have s04 := s3.trans s4
      have lwk' : wk.length = kn.length := lwk
      refine ⟨.ref a, rfl, a, rfl, ⟨_, Same.tup s04 hA⟩, for_it (walk_tup (K := K) (a := a) (xs := ws)) (fun i σ H' => Same H H' ∧ ∃ (qb : BookS) (y7 y8 : Option V), H' D = some (.dK []) ∧ BookAt K mg H' b qb ∧ BookL p n hs R (kn.length + i) qb ∧ σ = [some (.ref s'), some (.ref a), some (.int p), some (.int (n : Int)), some (.ref k), some (.ref g), some (.ref b), y7, y8, none, some (.ref D), none, none]) ⟨s04, qb, y7, none, eD, B4, by
        rw [lwk'] at L3
        exact L3, rfl⟩ (fun i σ H' _ hW => Same.tup hW.1 hA) (fun i v σ H5 H6 hi hW hY => ?_) (fun σ H5 hW => ?_)⟩
      · obtain ⟨rfl, hx⟩ := hY
        obtain ⟨s5, qb, y7, y8, e5, B5, L5, rfl⟩ := hW
        have hi : i < ws.length := hi
        obtain ⟨d', gd', _, hd'⟩ := dpAll_get (dpAll_same s5 _ _ dA) hx
        rw [List.getElem?_map] at gd'
        obtain ⟨z, gz, rfl⟩ := Option.map_eq_some_iff.mp gd'
        have mz : z ∈ cs := List.mem_of_getElem? gz
        obtain ⟨o, r, rfl, ho, hr5⟩ := dp_call80 hd'
        obtain ⟨okz, hz, mhz, ehz, inz⟩ := cin z mz
        have gR : R[kn.length + i]? = some z.2 := by
          rw [← hR, List.getElem?_append_right (by omega), Nat.add_sub_cancel_left]
          show (cs.map Prod.snd)[i]? = _
          rw [List.getElem?_map, gz]
          rfl
        obtain ⟨dxb, fs, eb, nf⟩ := B5.at_
        have ldq := L5.ld
        have lmq := L5.lm
        refine ⟨o, _, rfl, ho, rfl, _, _, rfl, _, _, rfl, rfl, .ref b, rfl, b, dxb, _, rfl, eb, nf _ (by decide +kernel) (by decide +kernel) (by decide +kernel) (by decide +kernel) (by decide +kernel), .str z.1, rfl, .ref r, rfl, ?_⟩
        rw [← ehz]
        refine ⟨b, r, qb, hz.1, z.2, momA p n hs (R.take (kn.length + i)), rfl, B5, L5.amid, by omega, by rw [lmq]; exact L5.mom _ (Nat.le_refl _), M_ _ (by omega), hr5, okz, nm_ _ hz mhz, has_ _ hz z.2 (by omega) mhz okz inz, fun H7 x7 B7 => ?_⟩
        exact ⟨same_xc s5 x7 nb, _, _, _, x7 _ _ e5 bD, B7, L5.push gR, rfl⟩
      · obtain ⟨s5, qb, y7, y8, e5, B5, L5, rfl⟩ := hW
        rw [la] at L5
        have lmq := L5.lm
        have ldq := L5.ld
        have srt : (hs.map Prod.fst).Pairwise sl := sl_of S.srt S.nd
        refine ⟨.ref k, rfl, k, wk, rfl, .inr (Same.tup s5 hk1), .ref b, rfl, ?_⟩
        obtain ⟨dxb, fs5, eb5, _⟩ := B5.at_
        refine ⟨b, _, _, rfl, eb5, b, qb, rfl, B5, qb.deeds.length, rfl, by omega, ?_⟩
        have nDH : H D = none := by
          cases e : H D with
          | none => rfl
          | some o => rw [s3 _ _ e] at nD; cases nD
        have szk : ∀ (x : Str) (A : List (List Int)), szI p n (x, selR [x] hs) A = ((plainR p n (selR [x] hs ++ A)).length : Int) := fun x A => rfl
        refine ⟨(wk.length : Int), (qb.deeds.length : Int), rfl, ⟨by omega, by omega, by omega, by omega⟩, ?_⟩
        rw [show ((qb.deeds.length : Int) - (wk.length : Int)).toNat = cs.length by omega]
        have tot0 : ∀ x ∈ hs.map Prod.fst, ∀ i, 0 ≤ szI p n (x, selR [x] hs) (R.take (kn.length + i)) - szI p n (x, selR [x] hs) kn := fun x mx i => by
          obtain ⟨h, mh, rfl⟩ := List.mem_map.mp mx
          rw [sel_one S.nd mh]
          have := szI_mono (h := h) F (S.ph h mh).1 S.pk.1 (okt (kn.length + i)) fun r hr => InR.mem (by
            rw [← hR, List.take_append]
            exact List.mem_append_left _ (by rw [List.take_of_length_le (by omega)]; exact hr))
          exact Int.sub_nonneg.mpr this
        refine for_range (lo := (wk.length : Int)) (n := cs.length) (fun i σ H' => Same H H' ∧ ∃ (kvs : List (L2.Key × V)) (y8 y11 y12 : Option V), H' D = some (.dK kvs) ∧ FoundAt (hs.map Prod.fst) kvs (fun x => szI p n (x, selR [x] hs) (R.take (kn.length + i)) - szI p n (x, selR [x] hs) kn) ∧ kvs.length ≤ 7 * i ∧ BookAt K mg H' b qb ∧ σ = [some (.ref s'), some (.ref a), some (.int p), some (.int (n : Int)), some (.ref k), some (.ref g), some (.ref b), y7, y8, none, some (.ref D), y11, y12]) ⟨s5, [], y8, none, none, e5, FoundAt.start.congr fun x mx => ?_, Nat.le_refl _, B5, rfl⟩ (fun i σ H6 hi hW => ?_) (fun σ H6 hW => ?_)
        · show 0 = _
          rw [← hR, Nat.add_zero, List.take_left]
          omega
        · obtain ⟨s6, kvs, y8, y11, y12, e6, FA, lkv, B6, rfl⟩ := hW
          have lmq := L5.lm
          have gA := L5.mom (kn.length + i) (by omega)
          have gA' := L5.mom (kn.length + i + 1) (by omega)
          have eG := gainA (p := p) (n := n) (A := R.take (kn.length + i)) (B := R.take (kn.length + i + 1)) S.nd
          obtain ⟨dx6, fs6, eb6, nf6⟩ := B6.at_
          refine ⟨.ref b, rfl, b, dx6, _, rfl, eb6, nf6 _ (by decide +kernel) (by decide +kernel) (by decide +kernel) (by decide +kernel) (by decide +kernel), .int ((wk.length : Int) + (i : Int)), rfl, ?_⟩
          refine ⟨b, qb, kn.length + i, _, _, by rw [lwk']; rfl, B6, by omega, gA, gA', (M_ _ (by omega)).mono (by decide), (M_ _ (by omega)).mono (by decide), fun H7 l s7 dl => ?_⟩
          rw [eG] at dl
          generalize hgs : (hs.map fun h => (h.1, szI p n h (R.take (kn.length + i + 1)) - szI p n h (R.take (kn.length + i)))).filter (fun z => decide (z.2 > 0)) = gs at dl
          have lgs : gs.length ≤ 6 := by
            rw [← hgs]
            refine Nat.le_trans (List.length_filter_le _ _) ?_
            rw [List.length_map]
            exact h6
          have mgs : ∀ z ∈ gs, ∃ h ∈ hs, z = (h.1, szI p n h (R.take (kn.length + i + 1)) - szI p n h (R.take (kn.length + i))) ∧ 0 < z.2 := fun z hz => by
            rw [← hgs] at hz
            obtain ⟨m1, m2⟩ := List.mem_filter.mp hz
            obtain ⟨h, mh, rfl⟩ := List.mem_map.mp m1
            exact ⟨h, mh, rfl, of_decide_eq_true m2⟩
          have ndgs : (gs.map Prod.fst).Nodup := by
            rw [← hgs]
            refine List.Nodup.sublist (List.Sublist.map _ List.filter_sublist) ?_
            rw [List.map_map]
            exact S.nd
          obtain ⟨wl, hl, dgs⟩ : ∃ wl, SqT K H7 l wl ∧ DpAll K H7 wl (gs.map pairD) := by
            cases dl with
            | tup a b => exact ⟨_, a, b⟩
          have lwl := dpAll_len dgs
          rw [List.length_map] at lwl
          have B7 := B6.same s7
          have e7 := s7 _ _ e6
          refine ⟨l, rfl, ⟨_, hl⟩, for_it (walk_tup (K := K) (a := l) (xs := wl)) (fun j σ H' => Same H H' ∧ Tk H7 H' ∧ ∃ (kvs : List (L2.Key × V)) (y8 y12 : Option V), H' D = some (.dK kvs) ∧ FoundAt (hs.map Prod.fst) kvs (fun x => szI p n (x, selR [x] hs) (R.take (kn.length + i)) - szI p n (x, selR [x] hs) kn + (if x ∈ (gs.take j).map Prod.fst then szI p n (x, selR [x] hs) (R.take (kn.length + i + 1)) - szI p n (x, selR [x] hs) (R.take (kn.length + i)) else 0)) ∧ kvs.length ≤ 7 * i + j ∧ BookAt K mg H' b qb ∧ σ = [some (.ref s'), some (.ref a), some (.int p), some (.int (n : Int)), some (.ref k), some (.ref g), some (.ref b), y7, y8, none, some (.ref D), some (.int ((wk.length : Int) + (i : Int))), y12]) ⟨s6.trans s7, Tk.refl _, kvs, y8, y12, e7, FA.congr fun x mx => by simp, by omega, B7, rfl⟩ (fun j σ H' _ hW => hW.2.1 _ _ _ hl) (fun j v σ H8 H9 hj hW hY => ?_) (fun σ H8 hW => ?_)⟩
          · obtain ⟨rfl, hx⟩ := hY
            obtain ⟨s8, tk8, kvs8, y8', y12', e8, F8, lk8, B8, rfl⟩ := hW
            have hj : j < wl.length := hj
            obtain ⟨d', gd', _, hd'⟩ := dpAll_get (dpAll_tk tk8 _ _ (noL_pairs gs) dgs) hx
            rw [List.getElem?_map] at gd'
            obtain ⟨z, gz, rfl⟩ := Option.map_eq_some_iff.mp gd'
            obtain ⟨h, mh, ez, zpos⟩ := mgs z (List.mem_of_getElem? gz)
            obtain ⟨o, rfl, ho⟩ := dp_pair80 hd'
            have mx : z.1 ∈ hs.map Prod.fst := by
              rw [ez]
              exact List.mem_map_of_mem mh
            refine ⟨o, _, rfl, ho, rfl, _, _, rfl, _, _, rfl, rfl, ?_⟩
            have nmem : z.1 ∉ (gs.take j).map Prod.fst := fun hm => by
              have := ndgs
              rw [← List.take_append_drop j gs, List.map_append, List.nodup_append] at this
              refine this.2.2 z.1 hm z.1 ?_ rfl
              have gd : (gs.drop j)[0]? = some z := by rw [List.getElem?_drop, Nat.add_zero]; exact gz
              exact List.mem_map_of_mem (List.mem_of_getElem? gd)
            have v := F8.vl z.1 mx
            have t0 := tot0 z.1 mx i
            refine ⟨.ref D, rfl, .inr (.inr (.inl ⟨rfl, .inl ⟨_, e8⟩⟩)), .str z.1, rfl, D, kvs8, Sum.inr z.1, .int 0, rfl, rfl, e8, ?_⟩
            rw [v]
            refine ⟨.int z.2, rfl, _, _, rfl, rfl, .ref D, rfl, .str z.1, rfl, D, _, rfl, DPut.k (k := Sum.inr z.1) e8 (small1000 (by omega)), ?_⟩
            refine ⟨same_mut s8 nDH, tk8.trans (tk_dK80 e8), _, _, _, upd_same, (F8.put mx ?_ zpos).congr fun x mx' => ?_, ?_, B8.mv (mv_dK80 e8) (fun o eo => by rw [upd_ne (Ne.symm bD)]; exact eo), rfl⟩
            · rw [if_neg nmem]
              omega
            · have et : (gs.take (j + 1)).map Prod.fst = (gs.take j).map Prod.fst ++ [z.1] := by
                rw [List.take_add_one, gz, List.map_append]
                rfl
              rw [et]
              by_cases e : x = z.1
              · subst e
                rw [if_pos rfl, if_neg nmem, if_pos (by simp)]
                have : z.2 = szI p n (z.1, selR [z.1] hs) (R.take (kn.length + i + 1)) - szI p n (z.1, selR [z.1] hs) (R.take (kn.length + i)) := by
                  rw [ez]
                  show _ = szI p n (h.1, selR [h.1] hs) _ - szI p n (h.1, selR [h.1] hs) _
                  rw [sel_one S.nd mh]
                omega
              · rw [if_neg e]
                by_cases m : x ∈ (gs.take j).map Prod.fst
                · rw [if_pos m, if_pos (List.mem_append_left _ m)]
                · rw [if_neg m, if_neg fun z' => by
                    rcases List.mem_append.mp z' with z' | z'
                    · exact m z'
                    · exact e (by simpa using z')]
            · exact Nat.le_trans (length_putK _ _ _) (by omega)
          · obtain ⟨s8, tk8, kvs8, y8', y12', e8, F8, lk8, B8, rfl⟩ := hW
            refine ⟨s8, kvs8, _, _, _, e8, F8.congr fun x mx => ?_, by omega, B8, rfl⟩
            rw [List.take_of_length_le (show gs.length ≤ wl.length by omega)]
            obtain ⟨h, mh, rfl⟩ := List.mem_map.mp mx
            have mono := szI_mono (h := h) F (S.ph h mh).1 (okt (kn.length + i)) (okt (kn.length + i + 1)) fun r hr => InR.mem (by
              rw [List.take_add_one]
              exact List.mem_append_left _ hr)
            rw [sel_one S.nd mh]
            have mono : szI p n (h.1, h.2) (R.take (kn.length + i)) ≤ szI p n (h.1, h.2) (R.take (kn.length + i + 1)) := mono
            rw [show kn.length + (i + 1) = kn.length + i + 1 from rfl]
            by_cases m : h.1 ∈ gs.map Prod.fst
            · rw [if_pos m]
              omega
            · rw [if_neg m]
              have : ¬ (szI p n (h.1, h.2) (R.take (kn.length + i + 1)) - szI p n (h.1, h.2) (R.take (kn.length + i)) > 0) := fun pz => m (by
                rw [← hgs]
                exact List.mem_map.mpr ⟨_, List.mem_filter.mpr ⟨List.mem_map.mpr ⟨h, mh, rfl⟩, decide_eq_true pz⟩, rfl⟩)
              omega
        · obtain ⟨s6, kvs, y8, y11, y12, e6, FA, lkv, B6, rfl⟩ := hW
          have FS := FA.sort (fun x mx => tot0 x mx cs.length) srt K
          refine ⟨.ref D, rfl, .inr (.inr (.inl ⟨rfl, .inl ⟨_, e6⟩⟩)), D, kvs, rfl, rfl, e6, fun P' nP => ?_⟩
          generalize hP : upd H6 P' _ = H7
          have s7 : Same H6 H7 := by
            rw [← hP]
            exact same_upd nP
          have eP : H7 P' = some (L2.DX.itemsO P' D) := by
            rw [← hP]
            exact upd_same
          obtain ⟨ds, d1, d2, d3, d4, d5⟩ := FS H7
          refine ⟨P', D, kvs, ds, rfl, eP, s7 _ _ e6, d1, d2, d3, d4, fun H8 l us s8 el dl => ?_⟩
          rw [d5] at dl
          have s78 := s7.trans s8
          have B8 := B6.same s78
          obtain ⟨dx8, fs8, eb8, nf8⟩ := B8.at_
          have BOK : BookOk 1000 qb := ⟨fun m hm => by
            obtain ⟨j, gj⟩ := List.getElem?_of_mem hm
            have lj : j < qb.moms.length := (List.getElem?_eq_some_iff.mp gj).1
            have := L5.lm
            have := (L5.mom j (by omega)).symm.trans gj
            cases this
            exact (M_ j (by omega)).mono (by decide), fun j x r m gd gm => by
            have lj : j < qb.deeds.length := (List.getElem?_eq_some_iff.mp gd).1
            have ld := L5.ld
            obtain ⟨x', r', gr', gd'⟩ := L5.deed j (by omega)
            have e := gd.symm.trans gd'
            cases e
            have e := (L5.mom j (by omega)).symm.trans gm
            cases e
            exact rowsOk_one (okR r (List.mem_of_getElem? gr')), by have := L5.ld; omega⟩
          have cnt := idle_count F okR L5 (by omega)
          refine ⟨.ref b, rfl, b, dx8, fs8, rfl, eb8, b, qb, rfl, B8, qb.deeds.length, rfl, by omega, ?_⟩
          refine ⟨.ref b, rfl, b, dx8, fs8, rfl, eb8, nf8 _ (by decide +kernel) (by decide +kernel) (by decide +kernel) (by decide +kernel) (by decide +kernel), b, qb, rfl, B8, BOK, fun H9 l9 s9 h9 => ?_⟩
          refine ⟨l9, _, rfl, .inr h9, _, _, rfl, rfl, ?_⟩
          refine ⟨Nat.le_of_lt (small1000 (show 2 ≤ 1000 by decide)), fun o no => ?_⟩
          generalize h10 : upd H9 o _ = H10
          obtain ⟨s10, e10⟩ := new_of h10 no
          have s810 := s9.trans s10
          have ep : ((hs.map Prod.fst).map fun x => (x, szI p n (x, selR [x] hs) (R.take (kn.length + cs.length)) - szI p n (x, selR [x] hs) kn)).filter (fun z => decide (z.2 > 0)) = learnP p n kn hs (rowsC cs) := by
            unfold learnP
            rw [hR, List.map_map, List.take_of_length_le (show R.length ≤ kn.length + cs.length by omega)]
            congr 1
            refine List.map_congr_left fun h mh => ?_
            show (h.1, szI p n (h.1, selR [h.1] hs) R - szI p n (h.1, selR [h.1] hs) kn) = _
            rw [sel_one S.nd mh]
          rw [ep] at dl
          have en : ((qb.deeds.length : Int) - (((idleR qb).map fun (i : Nat) => V.int (i : Int)).length : Int)) = ((plainR p n R).length : Int) := by
            rw [List.length_map]
            omega
          refine q H10 o (s6.trans (s78.trans s810)) (.lst (.inl (.inl e10)) (.cons (.lst (.inl (.inl (s810 _ _ el))) (dpAll_same s810 _ _ dl)) (.cons ?_ .nil)))
          show Dp K H10 (.int _) _
          rw [en]
          exact .int _
end
end OC
set_option Elab.async false
set_option linter.all false
set_option maxRecDepth 100000
set_option maxHeartbeats 4000000
namespace OC
open PySem PySem.Spec PyProof.Rows L2
section
variable {P : Program} {w : World} {K : PySem.W.Frag} {mg : Str → Option Value} {base : Heap}
theorem learnP_same {p : Int} {n : Nat} {kn rows rows' : List (List Int)} {hs : List (Str × List (List Int))} (S : Stand5 p n kn hs) (ok : RowsOk p n rows) (ok' : RowsOk p n rows') (a : ∀ r ∈ rows, InR p rows' r) (b : ∀ r ∈ rows', InR p rows r) : learnP p n kn hs rows = learnP p n kn hs rows' := by
  unfold learnP
  congr 1
  refine List.map_congr_left fun h mh => ?_
  have okm := rowsOk_app (S.ph h mh).1 S.pk.1
  have e : szI p n h (kn ++ rows) = szI p n h (kn ++ rows') := by
    unfold szI
    rw [← List.append_assoc, ← List.append_assoc, plain_same S.fld (rowsOk_app okm ok) (rowsOk_app okm ok') (fun r hr => ?_) fun r hr => ?_]
    · rcases List.mem_append.mp hr with hr | hr
      · exact InR.mem (List.mem_append_left _ hr)
      · exact InR.mono (fun x hx => InR.mem (List.mem_append_right _ hx)) (a r hr)
    · rcases List.mem_append.mp hr with hr | hr
      · exact InR.mem (List.mem_append_left _ hr)
      · exact InR.mono (fun x hx => InR.mem (List.mem_append_right _ hx)) (b r hr)
  rw [e]
theorem shaped_learn {ps : List (Str × Int)} {k : Int} (h : ∀ z ∈ ps, NameOk z.1) : SeqAt.shaped (.list [.list (ps.map pairD), .int k]) = true := by
  have hn : ∀ cs : List (Str × Int), (∀ c ∈ cs, NameOk c.1) → PyData.canLayAll0 (cs.map pairD) = true ∧ PyData.depthAll (cs.map pairD) ≤ 3 := fun cs => by
    induction cs with
    | nil => exact fun _ => ⟨rfl, by simp [PyData.depthAll]⟩
    | cons c cs ih =>
      intro nm
      obtain ⟨i1, i2⟩ := ih fun y hy => nm y (List.mem_cons_of_mem _ hy)
      have nc := name_strOk (nm c List.mem_cons_self)
      refine ⟨?_, ?_⟩
      · simp only [List.map_cons, PyData.canLayAll0, pairD, PyData.canLay0, nc, i1, Bool.and_true, Bool.true_and]
      · simp only [List.map_cons, PyData.depthAll, pairD, PyData.depth]
        omega
  obtain ⟨h1, h2⟩ := hn ps h
  unfold SeqAt.shaped
  simp only [PyData.canLay0, PyData.canLayAll0, PyData.depth, PyData.depthAll, h1, Bool.and_true, Bool.true_and]
  exact decide_eq_true (by omega)
theorem deck_keepDp {K : PySem.W.Frag} {d c : Addr} {t : Int} {H H' : Hp} {v : V} {x : PyData} (D : Deck H d c t) (k : Kept d c H H') (nx : noL x = true) (h : Dp K H v x) : Dp K H' v x := dp_tk (Tk.kept D k) _ _ nx h
theorem ne_self80 (x : V) : V.bl (!decide (x = x)) = V.bl false := by
  rw [decide_eq_true rfl]
  rfl
def sp_law (K : PySem.W.Frag) : Sp := fun vs H Q _ => ∃ (a : Addr) (ns : List Int), vs = [.ref a] ∧ SqL K H a (ns.map V.int) ∧ ns.length ≤ 63 ∧ ∀ H', Q (.bl true) H'
theorem ok_law (T : Top K mg) (W : StepsW w K mg) (hsys : HasSys base) {f : Addr} {fd : FuncData} (F : Fun K "law" "law" s_law f fd) : FnG P w K mg base CX0 15 f fd ["_law_script"] (sp_law K) := by
  have O__law_deck := ok__law_deck (P := P) (w := w) (base := base) T
  have O__law_draw := ok__law_draw (P := P) (w := w) (base := base) T
  have O__law_prime := ok__law_prime (P := P) (w := w) (base := base) T
  have O__law_stand := ok__law_stand (P := P) (w := w) (base := base) T
  have O__law_calls := ok__law_calls (P := P) (w := w) (base := base) T
  have O__law_behind := ok__law_behind (P := P) (w := w) (base := base) T
  have O__law_due := ok__law_due (P := P) (w := w) (base := base) T
  have O__law_otherwise := ok__law_otherwise (P := P) (w := w) (base := base) T
  have O__law_learned := ok__law_learned (P := P) (w := w) (base := base) T W
  refine funG F sc_law (fun vs H Q E h => ?_) (fun cdv A outer s H vs Q E hr hgd h => ?_)
  · obtain ⟨a, ns, rfl, _⟩ := h
    rfl
  · obtain ⟨a, ns, rfl, hS, hl, qq⟩ := h
    refine ⟨_, ((pss_cons (ps_set (i := 1) sc_law.nd rfl (.inl rfl) (pe_callO O__law_deck (hr.mono (by omega)) (by rfl) (pa_cons (pv 0) pa_nil)))
      (pss_cons (ps_for PassesOwn.never (by rfl) (pi_range1 (by rfl) T.b_range (pa_cons pe_int pa_nil)) (pg_name (i := 2) sc_law.nd rfl (.inl rfl))
        (pss_cons (ps_set (i := 3) sc_law.nd rfl (.inl rfl) (pe_callO O__law_prime (hr.mono (by omega)) (by rfl) (pa_cons (pv 1) pa_nil)))
        (pss_cons (ps_set (i := 4) sc_law.nd rfl (.inl rfl) (pe_callO O__law_stand (hr.mono (by omega)) (by rfl) (pa_cons (pv 1) (pa_cons (pv 3) (pa_cons (pe_op op_add pe_int (pe_callO O__law_draw (hr.mono (by omega)) (by rfl) (pa_cons (pv 1) (pa_cons pe_int pa_nil)))) (pa_cons (pe_op op_add pe_int (pe_callO O__law_draw (hr.mono (by omega)) (by rfl) (pa_cons (pv 1) (pa_cons pe_int pa_nil)))) pa_nil))))))
        (pss_cons (ps_set (i := 5) sc_law.nd rfl (.inl rfl) (pe_callO O__law_calls (hr.mono (by omega)) (by rfl) (pa_cons (pv 1) (pa_cons (pv 4) pa_nil))))
        (pss_cons (ps_set (i := 6) sc_law.nd rfl (.inl rfl) (pe_callO O__law_behind (hr.mono (by omega)) (by rfl) (pa_cons (pv 4) (pa_cons (pv 5) pa_nil))))
        (pss_cons (ps_if (pt_cmpR op_ne (pe_callB (call_reprS NB hsys hr hgd) (by rfl) T.b_repr (by decide +kernel) (pa_cons (pv 6) pa_nil)) (pe_callB (call_reprS NB hsys hr hgd) (by rfl) T.b_repr (by decide +kernel) (pa_cons (pe_callO O__law_due (hr.mono (by omega)) (by rfl) (pa_cons (pv 4) (pa_cons (pv 5) pa_nil))) pa_nil)) (nomark _))
          (pss_one (ps_ret pe_bl))
          pss_nil)
        (pss_one (ps_for PassesOwn.never (by rfl) (pi_range1 (by rfl) T.b_range (pa_cons pe_int pa_nil)) (pg_name (i := 7) sc_law.nd rfl (.inl rfl))
          (pss_cons (ps_set (i := 8) sc_law.nd rfl (.inl rfl) (pe_callO O__law_otherwise (hr.mono (by omega)) (by rfl) (pa_cons (pv 1) (pa_cons (pv 4) (pa_cons (pv 5) pa_nil)))))
          (pss_cons (ps_set (i := 9) sc_law.nd rfl (.inl rfl) (pe_callO O__law_behind (hr.mono (by omega)) (by rfl) (pa_cons (pv 4) (pa_cons (pv 8) pa_nil))))
          (pss_one (ps_if (PW.pt (pw_or (pt_cmpR op_ne (pe_callB (call_reprS NB hsys hr hgd) (by rfl) T.b_repr (by decide +kernel) (pa_cons (pv 9) pa_nil)) (pe_callB (call_reprS NB hsys hr hgd) (by rfl) T.b_repr (by decide +kernel) (pa_cons (pv 6) pa_nil)) (nomark _)) (pw_or1 (pt_cmpR (op_neD hr.units) (pe_callO O__law_learned (hr.mono (by omega)) (by rfl) (pa_cons (pv 4) (pa_cons (pv 8) pa_nil))) (pe_callO O__law_learned (hr.mono (by omega)) (by rfl) (pa_cons (pv 4) (pa_cons (pv 5) pa_nil))) (nomark _)))))
            (pss_one (ps_ret pe_bl))
            pss_nil))))))))))))
      (pss_one (ps_ret pe_bl))))), ?_⟩
    refine ⟨.ref a, rfl, a, ns, rfl, hS, hl, fun H1 d c s1 D1 _ _ => ?_⟩
    refine ⟨2, rfl, by decide, by decide, for_range (lo := 0) (n := 2) (fun i σ H' => ∃ (t' : Int) (y2 y3 y4 y5 y6 y7 y8 y9 : Option V), Deck H' d c t' ∧ t' ≤ 20000 * i ∧ σ = [some (.ref a), some (.ref d), y2, y3, y4, y5, y6, y7, y8, y9]) ⟨0, none, none, none, none, none, none, none, none, D1, by omega, rfl⟩ (fun i σ H2 hi hW => ?_) (fun σ H2 hW => ?_)⟩
    · obtain ⟨t2, y2, y3, y4, y5, y6, y7, y8, y9, D2, ht2, rfl⟩ := hW
      refine ⟨.ref d, rfl, d, c, t2, rfl, D2, by omega, fun H3 p k3 D3 mp => ?_⟩
      obtain ⟨p5, p101⟩ := pr8_bd p mp
      have F := pr8_fld p mp
      refine ⟨.ref d, rfl, .int p, rfl, .ref d, rfl, d, c, _, 7, rfl, D3, by omega, by decide, by decide, fun H4 n' k4 D4 n0 n6 => ⟨1, n', rfl, rfl, ?_⟩⟩
      refine ⟨.ref d, rfl, d, c, _, 4, rfl, D4, by omega, by decide, by decide, fun H5 m' k5 D5 m0 m3 => ⟨2, m', rfl, rfl, ?_⟩⟩
      obtain ⟨n, hn⟩ : ∃ n : Nat, 1 + n' = (n : Int) := ⟨(1 + n').toNat, by omega⟩
      obtain ⟨m, hm⟩ : ∃ m : Nat, 2 + m' = (m : Int) := ⟨(2 + m').toNat, by omega⟩
      dsimp only
      rw [hn, hm]
      refine ⟨d, c, _, p, n, m, rfl, D5, by omega, F, by omega, by omega, by omega, by omega, by omega, fun H6 sA t6 kn hs k6 D6 ht6 dS S lkn lhs => ?_⟩
      refine ⟨.ref d, rfl, .ref sA, rfl, d, c, sA, t6, p, n, kn, hs, rfl, D6, by omega, dS, S, fun H7 cA t7 ws cs k7 D7 ht7 hC dC cin lcs => ?_⟩
      have noS := noL_stand p n kn hs
      have dS7 := deck_keepDp D6 k7 noS dS
      refine ⟨.ref sA, rfl, .ref cA, rfl, .ref sA, cA, p, n, kn, hs, ws, cs, rfl, dS7, S, hC, dC, cin, fun H8 v8 s8 d8 => ?_⟩
      have okc := cin.rows
      have fitX : FitS (standD p n (plainR p n (kn ++ rowsC cs)) (lastH p n (rowsC cs) hs)) := (fitz_stand (S.on okc)).fit (by decide) (by decide)
      have noX := noL_stand p n (plainR p n (kn ++ rowsC cs)) (lastH p n (rowsC cs) hs)
      refine ⟨v8, rfl, _, _, rfl, rep_noL _ _ noX d8, fitX, .ref sA, rfl, .ref cA, rfl, sA, cA, p, n, kn, hs, ws, cs, rfl, dp_same s8 _ _ dS7, S, Same.tup s8 hC, dpAll_same s8 _ _ dC, cin, by omega, fun H9 l9 s9 d9 => ?_⟩
      refine ⟨_, _, rfl, rep_noL _ _ noX d9, fitX, rfl, false, ne_self80 _, iteF ?_⟩
      have s79 := s8.trans s9
      have D9 := D7.same s79
      have dS9 := dp_same s79 _ _ dS7
      have hC9 := Same.tup s79 hC
      have dC9 := dpAll_same s79 _ _ dC
      have d89 := dp_same s9 _ _ d8
      refine ⟨2, rfl, by decide, by decide, for_range (lo := 0) (n := 2) (fun j σ H' => Kept d c H9 H' ∧ ∃ (t' : Int) (y7 y8 y9 : Option V), Deck H' d c t' ∧ t' ≤ t7 + 200 * j ∧ σ = [some (.ref a), some (.ref d), some (.int (0 + (i : Int))), some (.int p), some (.ref sA), some (.ref cA), some v8, y7, y8, y9]) ⟨Kept.refl _ _ _, t7, _, _, _, D9, by omega, rfl⟩ (fun j σ Ha hj hW => ?_) (fun σ Ha hW => ?_)⟩
      · obtain ⟨ka, ta, y7, y8, y9, Da, hta, rfl⟩ := hW
        have dSa := deck_keepDp D9 ka noS dS9
        have hCa := Kept.tup D9 ka hC9
        have dCa := dpAll_tk (Tk.kept D9 ka) _ _ (noL_calls cs) dC9
        have d8a := deck_keepDp D9 ka noX d89
        refine ⟨.ref d, rfl, .ref sA, rfl, .ref cA, rfl, d, c, sA, cA, ta, p, n, kn, hs, ws, cs, rfl, Da, by omega, dSa, S, hCa, dCa, cin, lcs, fun Hb oA tb wo os kb Db htb hO dO oin los i1 i2 => ?_⟩
        have dSb := deck_keepDp Da kb noS dSa
        have hCb := Kept.tup Da kb hCa
        have dCb := dpAll_tk (Tk.kept Da kb) _ _ (noL_calls cs) dCa
        have d8b := deck_keepDp Da kb noX d8a
        refine ⟨.ref sA, rfl, .ref oA, rfl, .ref sA, oA, p, n, kn, hs, wo, os, rfl, dSb, S, hO, dO, oin, fun Hc vc sc dc => ?_⟩
        have a1 : ∀ r ∈ rowsC os, InR p (rowsC cs) r := fun r hr => by
          obtain ⟨z, mz, rfl⟩ := List.mem_map.mp hr
          exact i1 z mz
        have a2 : ∀ r ∈ rowsC cs, InR p (rowsC os) r := fun r hr => by
          obtain ⟨z, mz, rfl⟩ := List.mem_map.mp hr
          exact i2 z mz
        obtain ⟨q1, q2⟩ := lastH_same S oin.rows okc a1 a2
        have q3 := learnP_same S oin.rows okc a1 a2
        rw [q1, q2] at dc
        refine ⟨vc, rfl, _, _, rfl, rep_noL _ _ noX dc, fitX, v8, rfl, _, _, rfl, rep_noL _ _ noX (dp_same sc _ _ d8b), fitX, rfl, false, ne_self80 _, ?_⟩
        refine iteF ?_
        have h6 : hs.length ≤ 6 := by omega
        have nmL : ∀ z ∈ learnP p n kn hs (rowsC cs), NameOk z.1 := fun z hz => by
          obtain ⟨h, mh, rfl⟩ := List.mem_map.mp (List.mem_filter.mp hz).1
          exact S.nm _ (List.mem_map_of_mem mh)
        refine ⟨.ref sA, rfl, .ref oA, rfl, sA, oA, p, n, kn, hs, wo, os, rfl, dp_same sc _ _ dSb, S, h6, Same.tup sc hO, dpAll_same sc _ _ dO, oin, los, fun Hd ld sd dd => ?_⟩
        rw [q2, q3] at dd
        have scd := sc.trans sd
        refine ⟨.ref sA, rfl, .ref cA, rfl, sA, cA, p, n, kn, hs, ws, cs, rfl, dp_same scd _ _ dSb, S, h6, Same.tup scd hCb, dpAll_same scd _ _ dCb, cin, by omega, fun He le se de => ?_⟩
        have sh := shaped_learn (k := ((plainR p n (kn ++ rowsC cs)).length : Int)) nmL
        refine ⟨_, _, dp_same se _ _ dd, de, sh, sh, ?_⟩
        rw [SeqAt.eqv_refl _ (SeqAt.canLay_of_shaped sh)]
        refine ⟨false, rfl, iteF ?_⟩
        exact ⟨ka.trans (kb.trans (Kept.of (scd.trans se))), tb, _, _, _, Db.same (scd.trans se), by push_cast; omega, rfl⟩
      · obtain ⟨ka, ta, y7, y8, y9, Da, hta, rfl⟩ := hW
        exact ⟨ta, _, _, _, _, _, _, _, _, Da, by push_cast; push_cast at hta; omega, rfl⟩
    · obtain ⟨t2, y2, y3, y4, y5, y6, y7, y8, y9, D2, ht2, rfl⟩ := hW
      exact qq H2
end
end OC
set_option Elab.async false
set_option linter.all false
set_option maxRecDepth 100000
namespace OC
open PySem PySem.Spec PyProof.Rows L2
/-! ### the end -/
set_option maxHeartbeats 8000000 in
theorem all_mk {l : PySem.W.OpenLaw} {w : World} {K : PySem.W.Frag} {h : Heap} {mg : Str → Option Value} {fa : Addr} (X : K.In h) (G : h.Ns mainGlobals mg) (hfa : mg "law" = some (.ref fa))
    {LMoment : Addr} (qaMoment : PySem.W.nsIn K mainGlobals "Moment" = some (some (.ref LMoment))) (qpMoment : PySem.W.plainGet K LMoment Str.empty = true) (qhMoment : PySem.W.hasDictIn K LMoment = true) (qoMoment : PySem.W.plainOver K LMoment = true) (qsMoment : PySem.W.findIn K (.ref LMoment) "__setattr__" = some (some (.builtin "object.__setattr__"))) (qmMoment : PySem.W.makesIn K LMoment = true) (qkMoment : PySem.W.keepIn K (.ref LMoment) = true)
    (qnMoment_p : PySem.W.findIn K (.ref LMoment) "p" = some none)
    (qnMoment_n : PySem.W.findIn K (.ref LMoment) "n" = some none)
    (qnMoment_called : PySem.W.findIn K (.ref LMoment) "called" = some none)
    (qnMoment_hands : PySem.W.findIn K (.ref LMoment) "hands" = some none)
    {LBook : Addr} (qaBook : PySem.W.nsIn K mainGlobals "Book" = some (some (.ref LBook))) (qpBook : PySem.W.plainGet K LBook Str.empty = true) (qhBook : PySem.W.hasDictIn K LBook = true) (qoBook : PySem.W.plainOver K LBook = true) (qsBook : PySem.W.findIn K (.ref LBook) "__setattr__" = some (some (.builtin "object.__setattr__"))) (qmBook : PySem.W.makesIn K LBook = true) (qkBook : PySem.W.keepIn K (.ref LBook) = true)
    (qnBook_made : PySem.W.findIn K (.ref LBook) "made" = some none)
    (qnBook_moments : PySem.W.findIn K (.ref LBook) "moments" = some none)
    (qnBook_done : PySem.W.findIn K (.ref LBook) "done" = some none)
    (qnBook_trials : PySem.W.findIn K (.ref LBook) "trials" = some none)
    (qnBook_amid : PySem.W.findIn K (.ref LBook) "amid" = some none)
    {tLETTERS : Tok} (qcLETTERS : PySem.W.nsIn K mainGlobals "LETTERS" = some (some (.str "abcdefghijklmnopqrstuvwxyz" tLETTERS)))
    {tDEEDS : Tok} (qcDEEDS : PySem.W.nsIn K mainGlobals "DEEDS" = some (some (.int 60 tDEEDS)))
    {f0 : Addr} {od0 an0 : Option Addr} {sl0 : Array (Option Value)} {oc0 kV0 dc0 pm0 cd0 ct0 : Value}
    (a0 : PySem.W.nsIn K mainGlobals "is_name" = some (some (.ref f0))) (l0 : K.lookup f0 = some ⟨oc0, od0, .func (PySem.W.fnOf "is_name" "is_name" (defArgs s_is_name) (defBody s_is_name) (defScope s_is_name) .none kV0 dc0 pm0 an0 cd0 ct0), sl0⟩) (c0 : PySem.W.codeIn K cd0 "is_name" = true) (k0 : PySem.W.keepIn K (.ref f0) = true)
    {f1 : Addr} {od1 an1 : Option Addr} {sl1 : Array (Option Value)} {oc1 kV1 dc1 pm1 cd1 ct1 : Value}
    (a1 : PySem.W.nsIn K mainGlobals "is_rising" = some (some (.ref f1))) (l1 : K.lookup f1 = some ⟨oc1, od1, .func (PySem.W.fnOf "is_rising" "is_rising" (defArgs s_is_rising) (defBody s_is_rising) (defScope s_is_rising) .none kV1 dc1 pm1 an1 cd1 ct1), sl1⟩) (c1 : PySem.W.codeIn K cd1 "is_rising" = true) (k1 : PySem.W.keepIn K (.ref f1) = true)
    {f2 : Addr} {od2 an2 : Option Addr} {sl2 : Array (Option Value)} {oc2 kV2 dc2 pm2 cd2 ct2 : Value}
    (a2 : PySem.W.nsIn K mainGlobals "are_names" = some (some (.ref f2))) (l2 : K.lookup f2 = some ⟨oc2, od2, .func (PySem.W.fnOf "are_names" "are_names" (defArgs s_are_names) (defBody s_are_names) (defScope s_are_names) .none kV2 dc2 pm2 an2 cd2 ct2), sl2⟩) (c2 : PySem.W.codeIn K cd2 "are_names" = true) (k2 : PySem.W.keepIn K (.ref f2) = true)
    {f3 : Addr} {od3 an3 : Option Addr} {sl3 : Array (Option Value)} {oc3 kV3 dc3 pm3 cd3 ct3 : Value}
    (a3 : PySem.W.nsIn K mainGlobals "is_number" = some (some (.ref f3))) (l3 : K.lookup f3 = some ⟨oc3, od3, .func (PySem.W.fnOf "is_number" "is_number" (defArgs s_is_number) (defBody s_is_number) (defScope s_is_number) .none kV3 dc3 pm3 an3 cd3 ct3), sl3⟩) (c3 : PySem.W.codeIn K cd3 "is_number" = true) (k3 : PySem.W.keepIn K (.ref f3) = true)
    {f4 : Addr} {od4 an4 : Option Addr} {sl4 : Array (Option Value)} {oc4 kV4 dc4 pm4 cd4 ct4 : Value}
    (a4 : PySem.W.nsIn K mainGlobals "is_rest" = some (some (.ref f4))) (l4 : K.lookup f4 = some ⟨oc4, od4, .func (PySem.W.fnOf "is_rest" "is_rest" (defArgs s_is_rest) (defBody s_is_rest) (defScope s_is_rest) .none kV4 dc4 pm4 an4 cd4 ct4), sl4⟩) (c4 : PySem.W.codeIn K cd4 "is_rest" = true) (k4 : PySem.W.keepIn K (.ref f4) = true)
    {f5 : Addr} {od5 an5 : Option Addr} {sl5 : Array (Option Value)} {oc5 kV5 dc5 pm5 cd5 ct5 : Value}
    (a5 : PySem.W.nsIn K mainGlobals "contrary" = some (some (.ref f5))) (l5 : K.lookup f5 = some ⟨oc5, od5, .func (PySem.W.fnOf "contrary" "contrary" (defArgs s_contrary) (defBody s_contrary) (defScope s_contrary) .none kV5 dc5 pm5 an5 cd5 ct5), sl5⟩) (c5 : PySem.W.codeIn K cd5 "contrary" = true) (k5 : PySem.W.keepIn K (.ref f5) = true)
    {f6 : Addr} {od6 an6 : Option Addr} {sl6 : Array (Option Value)} {oc6 kV6 dc6 pm6 cd6 ct6 : Value}
    (a6 : PySem.W.nsIn K mainGlobals "is_row" = some (some (.ref f6))) (l6 : K.lookup f6 = some ⟨oc6, od6, .func (PySem.W.fnOf "is_row" "is_row" (defArgs s_is_row) (defBody s_is_row) (defScope s_is_row) .none kV6 dc6 pm6 an6 cd6 ct6), sl6⟩) (c6 : PySem.W.codeIn K cd6 "is_row" = true) (k6 : PySem.W.keepIn K (.ref f6) = true)
    {f7 : Addr} {od7 an7 : Option Addr} {sl7 : Array (Option Value)} {oc7 kV7 dc7 pm7 cd7 ct7 : Value}
    (a7 : PySem.W.nsIn K mainGlobals "added" = some (some (.ref f7))) (l7 : K.lookup f7 = some ⟨oc7, od7, .func (PySem.W.fnOf "added" "added" (defArgs s_added) (defBody s_added) (defScope s_added) .none kV7 dc7 pm7 an7 cd7 ct7), sl7⟩) (c7 : PySem.W.codeIn K cd7 "added" = true) (k7 : PySem.W.keepIn K (.ref f7) = true)
    {f8 : Addr} {od8 an8 : Option Addr} {sl8 : Array (Option Value)} {oc8 kV8 dc8 pm8 cd8 ct8 : Value}
    (a8 : PySem.W.nsIn K mainGlobals "times" = some (some (.ref f8))) (l8 : K.lookup f8 = some ⟨oc8, od8, .func (PySem.W.fnOf "times" "times" (defArgs s_times) (defBody s_times) (defScope s_times) .none kV8 dc8 pm8 an8 cd8 ct8), sl8⟩) (c8 : PySem.W.codeIn K cd8 "times" = true) (k8 : PySem.W.keepIn K (.ref f8) = true)
    {f9 : Addr} {od9 an9 : Option Addr} {sl9 : Array (Option Value)} {oc9 kV9 dc9 pm9 cd9 ct9 : Value}
    (a9 : PySem.W.nsIn K mainGlobals "check_hand" = some (some (.ref f9))) (l9 : K.lookup f9 = some ⟨oc9, od9, .func (PySem.W.fnOf "check_hand" "check_hand" (defArgs s_check_hand) (defBody s_check_hand) (defScope s_check_hand) .none kV9 dc9 pm9 an9 cd9 ct9), sl9⟩) (c9 : PySem.W.codeIn K cd9 "check_hand" = true) (k9 : PySem.W.keepIn K (.ref f9) = true)
    {f10 : Addr} {od10 an10 : Option Addr} {sl10 : Array (Option Value)} {oc10 kV10 dc10 pm10 cd10 ct10 : Value}
    (a10 : PySem.W.nsIn K mainGlobals "check_hands" = some (some (.ref f10))) (l10 : K.lookup f10 = some ⟨oc10, od10, .func (PySem.W.fnOf "check_hands" "check_hands" (defArgs s_check_hands) (defBody s_check_hands) (defScope s_check_hands) .none kV10 dc10 pm10 an10 cd10 ct10), sl10⟩) (c10 : PySem.W.codeIn K cd10 "check_hands" = true) (k10 : PySem.W.keepIn K (.ref f10) = true)
    {f11 : Addr} {od11 an11 : Option Addr} {sl11 : Array (Option Value)} {oc11 kV11 dc11 pm11 cd11 ct11 : Value}
    (a11 : PySem.W.nsIn K mainGlobals "check_row" = some (some (.ref f11))) (l11 : K.lookup f11 = some ⟨oc11, od11, .func (PySem.W.fnOf "check_row" "check_row" (defArgs s_check_row) (defBody s_check_row) (defScope s_check_row) .none kV11 dc11 pm11 an11 cd11 ct11), sl11⟩) (c11 : PySem.W.codeIn K cd11 "check_row" = true) (k11 : PySem.W.keepIn K (.ref f11) = true)
    {f12 : Addr} {od12 an12 : Option Addr} {sl12 : Array (Option Value)} {oc12 kV12 dc12 pm12 cd12 ct12 : Value}
    (a12 : PySem.W.nsIn K mainGlobals "is_noughts" = some (some (.ref f12))) (l12 : K.lookup f12 = some ⟨oc12, od12, .func (PySem.W.fnOf "is_noughts" "is_noughts" (defArgs s_is_noughts) (defBody s_is_noughts) (defScope s_is_noughts) .none kV12 dc12 pm12 an12 cd12 ct12), sl12⟩) (c12 : PySem.W.codeIn K cd12 "is_noughts" = true) (k12 : PySem.W.keepIn K (.ref f12) = true)
    {f13 : Addr} {od13 an13 : Option Addr} {sl13 : Array (Option Value)} {oc13 kV13 dc13 pm13 cd13 ct13 : Value}
    (a13 : PySem.W.nsIn K mainGlobals "first_place" = some (some (.ref f13))) (l13 : K.lookup f13 = some ⟨oc13, od13, .func (PySem.W.fnOf "first_place" "first_place" (defArgs s_first_place) (defBody s_first_place) (defScope s_first_place) .none kV13 dc13 pm13 an13 cd13 ct13), sl13⟩) (c13 : PySem.W.codeIn K cd13 "first_place" = true) (k13 : PySem.W.keepIn K (.ref f13) = true)
    {f14 : Addr} {od14 an14 : Option Addr} {sl14 : Array (Option Value)} {oc14 kV14 dc14 pm14 cd14 ct14 : Value}
    (a14 : PySem.W.nsIn K mainGlobals "cleared" = some (some (.ref f14))) (l14 : K.lookup f14 = some ⟨oc14, od14, .func (PySem.W.fnOf "cleared" "cleared" (defArgs s_cleared) (defBody s_cleared) (defScope s_cleared) .none kV14 dc14 pm14 an14 cd14 ct14), sl14⟩) (c14 : PySem.W.codeIn K cd14 "cleared" = true) (k14 : PySem.W.keepIn K (.ref f14) = true)
    {f15 : Addr} {od15 an15 : Option Addr} {sl15 : Array (Option Value)} {oc15 kV15 dc15 pm15 cd15 ct15 : Value}
    (a15 : PySem.W.nsIn K mainGlobals "left_of" = some (some (.ref f15))) (l15 : K.lookup f15 = some ⟨oc15, od15, .func (PySem.W.fnOf "left_of" "left_of" (defArgs s_left_of) (defBody s_left_of) (defScope s_left_of) .none kV15 dc15 pm15 an15 cd15 ct15), sl15⟩) (c15 : PySem.W.codeIn K cd15 "left_of" = true) (k15 : PySem.W.keepIn K (.ref f15) = true)
    {f16 : Addr} {od16 an16 : Option Addr} {sl16 : Array (Option Value)} {oc16 kV16 dc16 pm16 cd16 ct16 : Value}
    (a16 : PySem.W.nsIn K mainGlobals "widened" = some (some (.ref f16))) (l16 : K.lookup f16 = some ⟨oc16, od16, .func (PySem.W.fnOf "widened" "widened" (defArgs s_widened) (defBody s_widened) (defScope s_widened) .none kV16 dc16 pm16 an16 cd16 ct16), sl16⟩) (c16 : PySem.W.codeIn K cd16 "widened" = true) (k16 : PySem.W.keepIn K (.ref f16) = true)
    {f17 : Addr} {od17 an17 : Option Addr} {sl17 : Array (Option Value)} {oc17 kV17 dc17 pm17 cd17 ct17 : Value}
    (a17 : PySem.W.nsIn K mainGlobals "room_of" = some (some (.ref f17))) (l17 : K.lookup f17 = some ⟨oc17, od17, .func (PySem.W.fnOf "room_of" "room_of" (defArgs s_room_of) (defBody s_room_of) (defScope s_room_of) .none kV17 dc17 pm17 an17 cd17 ct17), sl17⟩) (c17 : PySem.W.codeIn K cd17 "room_of" = true) (k17 : PySem.W.keepIn K (.ref f17) = true)
    {f18 : Addr} {od18 an18 : Option Addr} {sl18 : Array (Option Value)} {oc18 kV18 dc18 pm18 cd18 ct18 : Value}
    (a18 : PySem.W.nsIn K mainGlobals "within" = some (some (.ref f18))) (l18 : K.lookup f18 = some ⟨oc18, od18, .func (PySem.W.fnOf "within" "within" (defArgs s_within) (defBody s_within) (defScope s_within) .none kV18 dc18 pm18 an18 cd18 ct18), sl18⟩) (c18 : PySem.W.codeIn K cd18 "within" = true) (k18 : PySem.W.keepIn K (.ref f18) = true)
    {f19 : Addr} {od19 an19 : Option Addr} {sl19 : Array (Option Value)} {oc19 kV19 dc19 pm19 cd19 ct19 : Value}
    (a19 : PySem.W.nsIn K mainGlobals "names_of" = some (some (.ref f19))) (l19 : K.lookup f19 = some ⟨oc19, od19, .func (PySem.W.fnOf "names_of" "names_of" (defArgs s_names_of) (defBody s_names_of) (defScope s_names_of) .none kV19 dc19 pm19 an19 cd19 ct19), sl19⟩) (c19 : PySem.W.codeIn K cd19 "names_of" = true) (k19 : PySem.W.keepIn K (.ref f19) = true)
    {f20 : Addr} {od20 an20 : Option Addr} {sl20 : Array (Option Value)} {oc20 kV20 dc20 pm20 cd20 ct20 : Value}
    (a20 : PySem.W.nsIn K mainGlobals "room_in" = some (some (.ref f20))) (l20 : K.lookup f20 = some ⟨oc20, od20, .func (PySem.W.fnOf "room_in" "room_in" (defArgs s_room_in) (defBody s_room_in) (defScope s_room_in) .none kV20 dc20 pm20 an20 cd20 ct20), sl20⟩) (c20 : PySem.W.codeIn K cd20 "room_in" = true) (k20 : PySem.W.keepIn K (.ref f20) = true)
    {f21 : Addr} {od21 an21 : Option Addr} {sl21 : Array (Option Value)} {oc21 kV21 dc21 pm21 cd21 ct21 : Value}
    (a21 : PySem.W.nsIn K mainGlobals "behind" = some (some (.ref f21))) (l21 : K.lookup f21 = some ⟨oc21, od21, .func (PySem.W.fnOf "behind" "behind" (defArgs s_behind) (defBody s_behind) (defScope s_behind) .none kV21 dc21 pm21 an21 cd21 ct21), sl21⟩) (c21 : PySem.W.codeIn K cd21 "behind" = true) (k21 : PySem.W.keepIn K (.ref f21) = true)
    {f22 : Addr} {od22 an22 : Option Addr} {sl22 : Array (Option Value)} {oc22 kV22 dc22 pm22 cd22 ct22 : Value}
    (a22 : PySem.W.nsIn K mainGlobals "names_at" = some (some (.ref f22))) (l22 : K.lookup f22 = some ⟨oc22, od22, .func (PySem.W.fnOf "names_at" "names_at" (defArgs s_names_at) (defBody s_names_at) (defScope s_names_at) .none kV22 dc22 pm22 an22 cd22 ct22), sl22⟩) (c22 : PySem.W.codeIn K cd22 "names_at" = true) (k22 : PySem.W.keepIn K (.ref f22) = true)
    {f23 : Addr} {od23 an23 : Option Addr} {sl23 : Array (Option Value)} {oc23 kV23 dc23 pm23 cd23 ct23 : Value}
    (a23 : PySem.W.nsIn K mainGlobals "heard_at" = some (some (.ref f23))) (l23 : K.lookup f23 = some ⟨oc23, od23, .func (PySem.W.fnOf "heard_at" "heard_at" (defArgs s_heard_at) (defBody s_heard_at) (defScope s_heard_at) .none kV23 dc23 pm23 an23 cd23 ct23), sl23⟩) (c23 : PySem.W.codeIn K cd23 "heard_at" = true) (k23 : PySem.W.keepIn K (.ref f23) = true)
    {f24 : Addr} {od24 an24 : Option Addr} {sl24 : Array (Option Value)} {oc24 kV24 dc24 pm24 cd24 ct24 : Value}
    (a24 : PySem.W.nsIn K mainGlobals "known_at" = some (some (.ref f24))) (l24 : K.lookup f24 = some ⟨oc24, od24, .func (PySem.W.fnOf "known_at" "known_at" (defArgs s_known_at) (defBody s_known_at) (defScope s_known_at) .none kV24 dc24 pm24 an24 cd24 ct24), sl24⟩) (c24 : PySem.W.codeIn K cd24 "known_at" = true) (k24 : PySem.W.keepIn K (.ref f24) = true)
    {f25 : Addr} {od25 an25 : Option Addr} {sl25 : Array (Option Value)} {oc25 kV25 dc25 pm25 cd25 ct25 : Value}
    (a25 : PySem.W.nsIn K mainGlobals "gained" = some (some (.ref f25))) (l25 : K.lookup f25 = some ⟨oc25, od25, .func (PySem.W.fnOf "gained" "gained" (defArgs s_gained) (defBody s_gained) (defScope s_gained) .none kV25 dc25 pm25 an25 cd25 ct25), sl25⟩) (c25 : PySem.W.codeIn K cd25 "gained" = true) (k25 : PySem.W.keepIn K (.ref f25) = true)
    {f26 : Addr} {od26 an26 : Option Addr} {sl26 : Array (Option Value)} {oc26 kV26 dc26 pm26 cd26 ct26 : Value}
    (a26 : PySem.W.nsIn K mainGlobals "after_call" = some (some (.ref f26))) (l26 : K.lookup f26 = some ⟨oc26, od26, .func (PySem.W.fnOf "after_call" "after_call" (defArgs s_after_call) (defBody s_after_call) (defScope s_after_call) .none kV26 dc26 pm26 an26 cd26 ct26), sl26⟩) (c26 : PySem.W.codeIn K cd26 "after_call" = true) (k26 : PySem.W.keepIn K (.ref f26) = true)
    {f27 : Addr} {od27 an27 : Option Addr} {sl27 : Array (Option Value)} {oc27 kV27 dc27 pm27 cd27 ct27 : Value}
    (a27 : PySem.W.nsIn K mainGlobals "after_whisper" = some (some (.ref f27))) (l27 : K.lookup f27 = some ⟨oc27, od27, .func (PySem.W.fnOf "after_whisper" "after_whisper" (defArgs s_after_whisper) (defBody s_after_whisper) (defScope s_after_whisper) .none kV27 dc27 pm27 an27 cd27 ct27), sl27⟩) (c27 : PySem.W.codeIn K cd27 "after_whisper" = true) (k27 : PySem.W.keepIn K (.ref f27) = true)
    {f28 : Addr} {od28 an28 : Option Addr} {sl28 : Array (Option Value)} {oc28 kV28 dc28 pm28 cd28 ct28 : Value}
    (a28 : PySem.W.nsIn K mainGlobals "after" = some (some (.ref f28))) (l28 : K.lookup f28 = some ⟨oc28, od28, .func (PySem.W.fnOf "after" "after" (defArgs s_after) (defBody s_after) (defScope s_after) .none kV28 dc28 pm28 an28 cd28 ct28), sl28⟩) (c28 : PySem.W.codeIn K cd28 "after" = true) (k28 : PySem.W.keepIn K (.ref f28) = true)
    {f29 : Addr} {od29 an29 : Option Addr} {sl29 : Array (Option Value)} {oc29 kV29 dc29 pm29 cd29 ct29 : Value}
    (a29 : PySem.W.nsIn K mainGlobals "_law_deck" = some (some (.ref f29))) (l29 : K.lookup f29 = some ⟨oc29, od29, .func (PySem.W.fnOf "_law_deck" "_law_deck" (defArgs s__law_deck) (defBody s__law_deck) (defScope s__law_deck) .none kV29 dc29 pm29 an29 cd29 ct29), sl29⟩) (c29 : PySem.W.codeIn K cd29 "_law_deck" = true) (k29 : PySem.W.keepIn K (.ref f29) = true)
    {f30 : Addr} {od30 an30 : Option Addr} {sl30 : Array (Option Value)} {oc30 kV30 dc30 pm30 cd30 ct30 : Value}
    (a30 : PySem.W.nsIn K mainGlobals "_law_draw" = some (some (.ref f30))) (l30 : K.lookup f30 = some ⟨oc30, od30, .func (PySem.W.fnOf "_law_draw" "_law_draw" (defArgs s__law_draw) (defBody s__law_draw) (defScope s__law_draw) .none kV30 dc30 pm30 an30 cd30 ct30), sl30⟩) (c30 : PySem.W.codeIn K cd30 "_law_draw" = true) (k30 : PySem.W.keepIn K (.ref f30) = true)
    {f31 : Addr} {od31 an31 : Option Addr} {sl31 : Array (Option Value)} {oc31 kV31 dc31 pm31 cd31 ct31 : Value}
    (a31 : PySem.W.nsIn K mainGlobals "_law_prime" = some (some (.ref f31))) (l31 : K.lookup f31 = some ⟨oc31, od31, .func (PySem.W.fnOf "_law_prime" "_law_prime" (defArgs s__law_prime) (defBody s__law_prime) (defScope s__law_prime) .none kV31 dc31 pm31 an31 cd31 ct31), sl31⟩) (c31 : PySem.W.codeIn K cd31 "_law_prime" = true) (k31 : PySem.W.keepIn K (.ref f31) = true)
    {f32 : Addr} {od32 an32 : Option Addr} {sl32 : Array (Option Value)} {oc32 kV32 dc32 pm32 cd32 ct32 : Value}
    (a32 : PySem.W.nsIn K mainGlobals "_law_row" = some (some (.ref f32))) (l32 : K.lookup f32 = some ⟨oc32, od32, .func (PySem.W.fnOf "_law_row" "_law_row" (defArgs s__law_row) (defBody s__law_row) (defScope s__law_row) .none kV32 dc32 pm32 an32 cd32 ct32), sl32⟩) (c32 : PySem.W.codeIn K cd32 "_law_row" = true) (k32 : PySem.W.keepIn K (.ref f32) = true)
    {f33 : Addr} {od33 an33 : Option Addr} {sl33 : Array (Option Value)} {oc33 kV33 dc33 pm33 cd33 ct33 : Value}
    (a33 : PySem.W.nsIn K mainGlobals "_law_plus" = some (some (.ref f33))) (l33 : K.lookup f33 = some ⟨oc33, od33, .func (PySem.W.fnOf "_law_plus" "_law_plus" (defArgs s__law_plus) (defBody s__law_plus) (defScope s__law_plus) .none kV33 dc33 pm33 an33 cd33 ct33), sl33⟩) (c33 : PySem.W.codeIn K cd33 "_law_plus" = true) (k33 : PySem.W.keepIn K (.ref f33) = true)
    {f34 : Addr} {od34 an34 : Option Addr} {sl34 : Array (Option Value)} {oc34 kV34 dc34 pm34 cd34 ct34 : Value}
    (a34 : PySem.W.nsIn K mainGlobals "_law_mixed" = some (some (.ref f34))) (l34 : K.lookup f34 = some ⟨oc34, od34, .func (PySem.W.fnOf "_law_mixed" "_law_mixed" (defArgs s__law_mixed) (defBody s__law_mixed) (defScope s__law_mixed) .none kV34 dc34 pm34 an34 cd34 ct34), sl34⟩) (c34 : PySem.W.codeIn K cd34 "_law_mixed" = true) (k34 : PySem.W.keepIn K (.ref f34) = true)
    {f35 : Addr} {od35 an35 : Option Addr} {sl35 : Array (Option Value)} {oc35 kV35 dc35 pm35 cd35 ct35 : Value}
    (a35 : PySem.W.nsIn K mainGlobals "_law_rows" = some (some (.ref f35))) (l35 : K.lookup f35 = some ⟨oc35, od35, .func (PySem.W.fnOf "_law_rows" "_law_rows" (defArgs s__law_rows) (defBody s__law_rows) (defScope s__law_rows) .none kV35 dc35 pm35 an35 cd35 ct35), sl35⟩) (c35 : PySem.W.codeIn K cd35 "_law_rows" = true) (k35 : PySem.W.keepIn K (.ref f35) = true)
    {f36 : Addr} {od36 an36 : Option Addr} {sl36 : Array (Option Value)} {oc36 kV36 dc36 pm36 cd36 ct36 : Value}
    (a36 : PySem.W.nsIn K mainGlobals "_law_contrary" = some (some (.ref f36))) (l36 : K.lookup f36 = some ⟨oc36, od36, .func (PySem.W.fnOf "_law_contrary" "_law_contrary" (defArgs s__law_contrary) (defBody s__law_contrary) (defScope s__law_contrary) .none kV36 dc36 pm36 an36 cd36 ct36), sl36⟩) (c36 : PySem.W.codeIn K cd36 "_law_contrary" = true) (k36 : PySem.W.keepIn K (.ref f36) = true)
    {f37 : Addr} {od37 an37 : Option Addr} {sl37 : Array (Option Value)} {oc37 kV37 dc37 pm37 cd37 ct37 : Value}
    (a37 : PySem.W.nsIn K mainGlobals "_law_less" = some (some (.ref f37))) (l37 : K.lookup f37 = some ⟨oc37, od37, .func (PySem.W.fnOf "_law_less" "_law_less" (defArgs s__law_less) (defBody s__law_less) (defScope s__law_less) .none kV37 dc37 pm37 an37 cd37 ct37), sl37⟩) (c37 : PySem.W.codeIn K cd37 "_law_less" = true) (k37 : PySem.W.keepIn K (.ref f37) = true)
    {f38 : Addr} {od38 an38 : Option Addr} {sl38 : Array (Option Value)} {oc38 kV38 dc38 pm38 cd38 ct38 : Value}
    (a38 : PySem.W.nsIn K mainGlobals "_law_plain" = some (some (.ref f38))) (l38 : K.lookup f38 = some ⟨oc38, od38, .func (PySem.W.fnOf "_law_plain" "_law_plain" (defArgs s__law_plain) (defBody s__law_plain) (defScope s__law_plain) .none kV38 dc38 pm38 an38 cd38 ct38), sl38⟩) (c38 : PySem.W.codeIn K cd38 "_law_plain" = true) (k38 : PySem.W.keepIn K (.ref f38) = true)
    {f39 : Addr} {od39 an39 : Option Addr} {sl39 : Array (Option Value)} {oc39 kV39 dc39 pm39 cd39 ct39 : Value}
    (a39 : PySem.W.nsIn K mainGlobals "_law_turned" = some (some (.ref f39))) (l39 : K.lookup f39 = some ⟨oc39, od39, .func (PySem.W.fnOf "_law_turned" "_law_turned" (defArgs s__law_turned) (defBody s__law_turned) (defScope s__law_turned) .none kV39 dc39 pm39 an39 cd39 ct39), sl39⟩) (c39 : PySem.W.codeIn K cd39 "_law_turned" = true) (k39 : PySem.W.keepIn K (.ref f39) = true)
    {f40 : Addr} {od40 an40 : Option Addr} {sl40 : Array (Option Value)} {oc40 kV40 dc40 pm40 cd40 ct40 : Value}
    (a40 : PySem.W.nsIn K mainGlobals "_law_names" = some (some (.ref f40))) (l40 : K.lookup f40 = some ⟨oc40, od40, .func (PySem.W.fnOf "_law_names" "_law_names" (defArgs s__law_names) (defBody s__law_names) (defScope s__law_names) .none kV40 dc40 pm40 an40 cd40 ct40), sl40⟩) (c40 : PySem.W.codeIn K cd40 "_law_names" = true) (k40 : PySem.W.keepIn K (.ref f40) = true)
    {f41 : Addr} {od41 an41 : Option Addr} {sl41 : Array (Option Value)} {oc41 kV41 dc41 pm41 cd41 ct41 : Value}
    (a41 : PySem.W.nsIn K mainGlobals "_law_stand" = some (some (.ref f41))) (l41 : K.lookup f41 = some ⟨oc41, od41, .func (PySem.W.fnOf "_law_stand" "_law_stand" (defArgs s__law_stand) (defBody s__law_stand) (defScope s__law_stand) .none kV41 dc41 pm41 an41 cd41 ct41), sl41⟩) (c41 : PySem.W.codeIn K cd41 "_law_stand" = true) (k41 : PySem.W.keepIn K (.ref f41) = true)
    {f42 : Addr} {od42 an42 : Option Addr} {sl42 : Array (Option Value)} {oc42 kV42 dc42 pm42 cd42 ct42 : Value}
    (a42 : PySem.W.nsIn K mainGlobals "_law_has" = some (some (.ref f42))) (l42 : K.lookup f42 = some ⟨oc42, od42, .func (PySem.W.fnOf "_law_has" "_law_has" (defArgs s__law_has) (defBody s__law_has) (defScope s__law_has) .none kV42 dc42 pm42 an42 cd42 ct42), sl42⟩) (c42 : PySem.W.codeIn K cd42 "_law_has" = true) (k42 : PySem.W.keepIn K (.ref f42) = true)
    {f43 : Addr} {od43 an43 : Option Addr} {sl43 : Array (Option Value)} {oc43 kV43 dc43 pm43 cd43 ct43 : Value}
    (a43 : PySem.W.nsIn K mainGlobals "_law_calls" = some (some (.ref f43))) (l43 : K.lookup f43 = some ⟨oc43, od43, .func (PySem.W.fnOf "_law_calls" "_law_calls" (defArgs s__law_calls) (defBody s__law_calls) (defScope s__law_calls) .none kV43 dc43 pm43 an43 cd43 ct43), sl43⟩) (c43 : PySem.W.codeIn K cd43 "_law_calls" = true) (k43 : PySem.W.keepIn K (.ref f43) = true)
    {f44 : Addr} {od44 an44 : Option Addr} {sl44 : Array (Option Value)} {oc44 kV44 dc44 pm44 cd44 ct44 : Value}
    (a44 : PySem.W.nsIn K mainGlobals "_law_callers" = some (some (.ref f44))) (l44 : K.lookup f44 = some ⟨oc44, od44, .func (PySem.W.fnOf "_law_callers" "_law_callers" (defArgs s__law_callers) (defBody s__law_callers) (defScope s__law_callers) .none kV44 dc44 pm44 an44 cd44 ct44), sl44⟩) (c44 : PySem.W.codeIn K cd44 "_law_callers" = true) (k44 : PySem.W.keepIn K (.ref f44) = true)
    {f45 : Addr} {od45 an45 : Option Addr} {sl45 : Array (Option Value)} {oc45 kV45 dc45 pm45 cd45 ct45 : Value}
    (a45 : PySem.W.nsIn K mainGlobals "_law_otherwise" = some (some (.ref f45))) (l45 : K.lookup f45 = some ⟨oc45, od45, .func (PySem.W.fnOf "_law_otherwise" "_law_otherwise" (defArgs s__law_otherwise) (defBody s__law_otherwise) (defScope s__law_otherwise) .none kV45 dc45 pm45 an45 cd45 ct45), sl45⟩) (c45 : PySem.W.codeIn K cd45 "_law_otherwise" = true) (k45 : PySem.W.keepIn K (.ref f45) = true)
    {f46 : Addr} {od46 an46 : Option Addr} {sl46 : Array (Option Value)} {oc46 kV46 dc46 pm46 cd46 ct46 : Value}
    (a46 : PySem.W.nsIn K mainGlobals "_law_behind" = some (some (.ref f46))) (l46 : K.lookup f46 = some ⟨oc46, od46, .func (PySem.W.fnOf "_law_behind" "_law_behind" (defArgs s__law_behind) (defBody s__law_behind) (defScope s__law_behind) .none kV46 dc46 pm46 an46 cd46 ct46), sl46⟩) (c46 : PySem.W.codeIn K cd46 "_law_behind" = true) (k46 : PySem.W.keepIn K (.ref f46) = true)
    {f47 : Addr} {od47 an47 : Option Addr} {sl47 : Array (Option Value)} {oc47 kV47 dc47 pm47 cd47 ct47 : Value}
    (a47 : PySem.W.nsIn K mainGlobals "_law_due" = some (some (.ref f47))) (l47 : K.lookup f47 = some ⟨oc47, od47, .func (PySem.W.fnOf "_law_due" "_law_due" (defArgs s__law_due) (defBody s__law_due) (defScope s__law_due) .none kV47 dc47 pm47 an47 cd47 ct47), sl47⟩) (c47 : PySem.W.codeIn K cd47 "_law_due" = true) (k47 : PySem.W.keepIn K (.ref f47) = true)
    {f48 : Addr} {od48 an48 : Option Addr} {sl48 : Array (Option Value)} {oc48 kV48 dc48 pm48 cd48 ct48 : Value}
    (a48 : PySem.W.nsIn K mainGlobals "_law_learned" = some (some (.ref f48))) (l48 : K.lookup f48 = some ⟨oc48, od48, .func (PySem.W.fnOf "_law_learned" "_law_learned" (defArgs s__law_learned) (defBody s__law_learned) (defScope s__law_learned) .none kV48 dc48 pm48 an48 cd48 ct48), sl48⟩) (c48 : PySem.W.codeIn K cd48 "_law_learned" = true) (k48 : PySem.W.keepIn K (.ref f48) = true)
    {f49 : Addr} {od49 an49 : Option Addr} {sl49 : Array (Option Value)} {oc49 kV49 dc49 pm49 cd49 ct49 : Value}
    (a49 : PySem.W.nsIn K mainGlobals "law" = some (some (.ref f49))) (l49 : K.lookup f49 = some ⟨oc49, od49, .func (PySem.W.fnOf "law" "law" (defArgs s_law) (defBody s_law) (defScope s_law) .none kV49 dc49 pm49 an49 cd49 ct49), sl49⟩) (c49 : PySem.W.codeIn K cd49 "law" = true) (k49 : PySem.W.keepIn K (.ref f49) = true)
    {f50 : Addr} {od50 an50 : Option Addr} {sl50 : Array (Option Value)} {oc50 kV50 dc50 pm50 cd50 ct50 : Value}
    (a50 : PySem.W.findIn K (.ref LMoment) "__init__" = some (some (.ref f50))) (i50 : PySem.W.isFn K (.ref f50) = true) (l50 : K.lookup f50 = some ⟨oc50, od50, .func (PySem.W.fnOf "__init__" "Moment.__init__" (defArgs s_Moment___init__) (defBody s_Moment___init__) (defScope s_Moment___init__) .none kV50 dc50 pm50 an50 cd50 ct50), sl50⟩) (c50 : PySem.W.codeIn K cd50 "Moment.__init__" = true) (k50 : PySem.W.keepIn K (.ref f50) = true)
    {f51 : Addr} {od51 an51 : Option Addr} {sl51 : Array (Option Value)} {oc51 kV51 dc51 pm51 cd51 ct51 : Value}
    (a51 : PySem.W.findIn K (.ref LBook) "__init__" = some (some (.ref f51))) (i51 : PySem.W.isFn K (.ref f51) = true) (l51 : K.lookup f51 = some ⟨oc51, od51, .func (PySem.W.fnOf "__init__" "Book.__init__" (defArgs s_Book___init__) (defBody s_Book___init__) (defScope s_Book___init__) .none kV51 dc51 pm51 an51 cd51 ct51), sl51⟩) (c51 : PySem.W.codeIn K cd51 "Book.__init__" = true) (k51 : PySem.W.keepIn K (.ref f51) = true)
    {f52 : Addr} {od52 an52 : Option Addr} {sl52 : Array (Option Value)} {oc52 kV52 dc52 pm52 cd52 ct52 : Value}
    (a52 : PySem.W.findIn K (.ref LBook) "__len__" = some (some (.ref f52))) (i52 : PySem.W.isFn K (.ref f52) = true) (l52 : K.lookup f52 = some ⟨oc52, od52, .func (PySem.W.fnOf "__len__" "Book.__len__" (defArgs s_Book___len__) (defBody s_Book___len__) (defScope s_Book___len__) .none kV52 dc52 pm52 an52 cd52 ct52), sl52⟩) (c52 : PySem.W.codeIn K cd52 "Book.__len__" = true) (k52 : PySem.W.keepIn K (.ref f52) = true)
    {f53 : Addr} {od53 an53 : Option Addr} {sl53 : Array (Option Value)} {oc53 kV53 dc53 pm53 cd53 ct53 : Value}
    (a53 : PySem.W.findIn K (.ref LBook) "now" = some (some (.ref f53))) (i53 : PySem.W.isFn K (.ref f53) = true) (l53 : K.lookup f53 = some ⟨oc53, od53, .func (PySem.W.fnOf "now" "Book.now" (defArgs s_Book_now) (defBody s_Book_now) (defScope s_Book_now) .none kV53 dc53 pm53 an53 cd53 ct53), sl53⟩) (c53 : PySem.W.codeIn K cd53 "Book.now" = true) (k53 : PySem.W.keepIn K (.ref f53) = true)
    {f54 : Addr} {od54 an54 : Option Addr} {sl54 : Array (Option Value)} {oc54 kV54 dc54 pm54 cd54 ct54 : Value}
    (a54 : PySem.W.findIn K (.ref LBook) "refuse_amid" = some (some (.ref f54))) (i54 : PySem.W.isFn K (.ref f54) = true) (l54 : K.lookup f54 = some ⟨oc54, od54, .func (PySem.W.fnOf "refuse_amid" "Book.refuse_amid" (defArgs s_Book_refuse_amid) (defBody s_Book_refuse_amid) (defScope s_Book_refuse_amid) .none kV54 dc54 pm54 an54 cd54 ct54), sl54⟩) (c54 : PySem.W.codeIn K cd54 "Book.refuse_amid" = true) (k54 : PySem.W.keepIn K (.ref f54) = true)
    {f55 : Addr} {od55 an55 : Option Addr} {sl55 : Array (Option Value)} {oc55 kV55 dc55 pm55 cd55 ct55 : Value}
    (a55 : PySem.W.findIn K (.ref LBook) "perform" = some (some (.ref f55))) (i55 : PySem.W.isFn K (.ref f55) = true) (l55 : K.lookup f55 = some ⟨oc55, od55, .func (PySem.W.fnOf "perform" "Book.perform" (defArgs s_Book_perform) (defBody s_Book_perform) (defScope s_Book_perform) .none kV55 dc55 pm55 an55 cd55 ct55), sl55⟩) (c55 : PySem.W.codeIn K cd55 "Book.perform" = true) (k55 : PySem.W.keepIn K (.ref f55) = true)
    {f56 : Addr} {od56 an56 : Option Addr} {sl56 : Array (Option Value)} {oc56 kV56 dc56 pm56 cd56 ct56 : Value}
    (a56 : PySem.W.findIn K (.ref LBook) "call" = some (some (.ref f56))) (i56 : PySem.W.isFn K (.ref f56) = true) (l56 : K.lookup f56 = some ⟨oc56, od56, .func (PySem.W.fnOf "call" "Book.call" (defArgs s_Book_call) (defBody s_Book_call) (defScope s_Book_call) .none kV56 dc56 pm56 an56 cd56 ct56), sl56⟩) (c56 : PySem.W.codeIn K cd56 "Book.call" = true) (k56 : PySem.W.keepIn K (.ref f56) = true)
    {f57 : Addr} {od57 an57 : Option Addr} {sl57 : Array (Option Value)} {oc57 kV57 dc57 pm57 cd57 ct57 : Value}
    (a57 : PySem.W.findIn K (.ref LBook) "learned" = some (some (.ref f57))) (i57 : PySem.W.isFn K (.ref f57) = true) (l57 : K.lookup f57 = some ⟨oc57, od57, .func (PySem.W.fnOf "learned" "Book.learned" (defArgs s_Book_learned) (defBody s_Book_learned) (defScope s_Book_learned) .none kV57 dc57 pm57 an57 cd57 ct57), sl57⟩) (c57 : PySem.W.codeIn K cd57 "Book.learned" = true) (k57 : PySem.W.keepIn K (.ref f57) = true)
    {f58 : Addr} {od58 an58 : Option Addr} {sl58 : Array (Option Value)} {oc58 kV58 dc58 pm58 cd58 ct58 : Value}
    (a58 : PySem.W.findIn K (.ref LBook) "idle" = some (some (.ref f58))) (i58 : PySem.W.isFn K (.ref f58) = true) (l58 : K.lookup f58 = some ⟨oc58, od58, .func (PySem.W.fnOf "idle" "Book.idle" (defArgs s_Book_idle) (defBody s_Book_idle) (defScope s_Book_idle) .none kV58 dc58 pm58 an58 cd58 ct58), sl58⟩) (c58 : PySem.W.codeIn K cd58 "Book.idle" = true) (k58 : PySem.W.keepIn K (.ref f58) = true)
    {f59 : Addr} {od59 an59 : Option Addr} {sl59 : Array (Option Value)} {oc59 kV59 dc59 pm59 cd59 ct59 : Value}
    (a59 : PySem.W.findIn K (.ref LBook) "is_idle" = some (some (.ref f59))) (i59 : PySem.W.isFn K (.ref f59) = true) (l59 : K.lookup f59 = some ⟨oc59, od59, .func (PySem.W.fnOf "is_idle" "Book.is_idle" (defArgs s_Book_is_idle) (defBody s_Book_is_idle) (defScope s_Book_is_idle) .none kV59 dc59 pm59 an59 cd59 ct59), sl59⟩) (c59 : PySem.W.codeIn K cd59 "Book.is_idle" = true) (k59 : PySem.W.keepIn K (.ref f59) = true)
    (z_abs : PySem.W.nsIn K mainGlobals "abs" = some none)
    (z_all : PySem.W.nsIn K mainGlobals "all" = some none)
    (z_bool : PySem.W.nsIn K mainGlobals "bool" = some none)
    (z_enumerate : PySem.W.nsIn K mainGlobals "enumerate" = some none)
    (z_int : PySem.W.nsIn K mainGlobals "int" = some none)
    (z_isinstance : PySem.W.nsIn K mainGlobals "isinstance" = some none)
    (z_len : PySem.W.nsIn K mainGlobals "len" = some none)
    (z_list : PySem.W.nsIn K mainGlobals "list" = some none)
    (z_range : PySem.W.nsIn K mainGlobals "range" = some none)
    (z_repr : PySem.W.nsIn K mainGlobals "repr" = some none)
    (z_sorted : PySem.W.nsIn K mainGlobals "sorted" = some none)
    (z_str : PySem.W.nsIn K mainGlobals "str" = some none)
    (z_tuple : PySem.W.nsIn K mainGlobals "tuple" = some none)
    (z_zip : PySem.W.nsIn K mainGlobals "zip" = some none)
    {DS : Addr} {esS : Array DictEntry} {nS : Nat} (qS : PySem.W.nsIn K mainGlobals "STEPS" = some (some (.ref DS))) (qD : K.lookup DS = some ⟨.type "dict", none, .dict esS nS, #[]⟩) (qL : PySem.W.KeysLit w.params esS.toList)
    (x_call : PySem.W.nsIn K DS "call" = some (some (.ref f26))) (x_whisper : PySem.W.nsIn K DS "whisper" = some (some (.ref f27)))
    : ∃ fd : FuncData, (∀ (s : Shared) (v : Value), BindsTo s fd ⟨[v], []⟩ [("_law_script", v)]) ∧ ∀ base : Heap, K.In base → base.Ns mainGlobals mg → HasSys base → FnG l.prog w K mg base CX0 15 fa fd ["_law_script"] (sp_law K) := by
  have e := hfa.symm.trans (PySem.W.mg_of X G a49)
  cases e
  have T : Top K mg := {
    k_Moment := clsN_of X G qaMoment qpMoment qhMoment qoMoment qsMoment qmMoment qkMoment,
    na_Moment_p := noA_of X G qaMoment qnMoment_p,
    na_Moment_n := noA_of X G qaMoment qnMoment_n,
    na_Moment_called := noA_of X G qaMoment qnMoment_called,
    na_Moment_hands := noA_of X G qaMoment qnMoment_hands,
    k_Book := clsN_of X G qaBook qpBook qhBook qoBook qsBook qmBook qkBook,
    na_Book_made := noA_of X G qaBook qnBook_made,
    na_Book_moments := noA_of X G qaBook qnBook_moments,
    na_Book_done := noA_of X G qaBook qnBook_done,
    na_Book_trials := noA_of X G qaBook qnBook_trials,
    na_Book_amid := noA_of X G qaBook qnBook_amid,
    c_LETTERS := ⟨_, PySem.W.mg_of X G qcLETTERS⟩,
    c_DEEDS := ⟨_, PySem.W.mg_of X G qcDEEDS⟩,
    d_Moment___init__ := dfM_of X G qaMoment a50 i50 l50 c50 k50 (fun _ _ _ _ _ _ us hl => match us, hl with | [_, _, _, _, _], _ => rfl),
    d_Book___init__ := dfM_of X G qaBook a51 i51 l51 c51 k51 (fun _ _ _ _ _ _ us hl => match us, hl with | [_, _, _, _], _ => rfl),
    d_Book___len__ := dfM_of X G qaBook a52 i52 l52 c52 k52 (fun _ _ _ _ _ _ us hl => match us, hl with | [_], _ => rfl),
    d_Book_now := dfM_of X G qaBook a53 i53 l53 c53 k53 (fun _ _ _ _ _ _ us hl => match us, hl with | [_], _ => rfl),
    d_Book_refuse_amid := dfM_of X G qaBook a54 i54 l54 c54 k54 (fun _ _ _ _ _ _ us hl => match us, hl with | [_], _ => rfl),
    d_Book_perform := dfM_of X G qaBook a55 i55 l55 c55 k55 (fun _ _ _ _ _ _ us hl => match us, hl with | [_, _], _ => rfl),
    d_Book_call := dfM_of X G qaBook a56 i56 l56 c56 k56 (fun _ _ _ _ _ _ us hl => match us, hl with | [_, _, _], _ => rfl),
    d_Book_learned := dfM_of X G qaBook a57 i57 l57 c57 k57 (fun _ _ _ _ _ _ us hl => match us, hl with | [_, _], _ => rfl),
    d_Book_idle := dfM_of X G qaBook a58 i58 l58 c58 k58 (fun _ _ _ _ _ _ us hl => match us, hl with | [_], _ => rfl),
    d_Book_is_idle := dfM_of X G qaBook a59 i59 l59 c59 k59 (fun _ _ _ _ _ _ us hl => match us, hl with | [_, _, _], _ => rfl),
    b_abs := PySem.W.mg_none_of X G z_abs,
    b_all := PySem.W.mg_none_of X G z_all,
    b_bool := PySem.W.mg_none_of X G z_bool,
    b_enumerate := PySem.W.mg_none_of X G z_enumerate,
    b_int := PySem.W.mg_none_of X G z_int,
    b_isinstance := PySem.W.mg_none_of X G z_isinstance,
    b_len := PySem.W.mg_none_of X G z_len,
    b_list := PySem.W.mg_none_of X G z_list,
    b_range := PySem.W.mg_none_of X G z_range,
    b_repr := PySem.W.mg_none_of X G z_repr,
    b_sorted := PySem.W.mg_none_of X G z_sorted,
    b_str := PySem.W.mg_none_of X G z_str,
    b_tuple := PySem.W.mg_none_of X G z_tuple,
    b_zip := PySem.W.mg_none_of X G z_zip,
    d_is_name := df_of X G a0 l0 c0 k0 (fun _ _ _ _ _ _ us hl => match us, hl with | [_], _ => rfl),
    d_is_rising := df_of X G a1 l1 c1 k1 (fun _ _ _ _ _ _ us hl => match us, hl with | [_], _ => rfl),
    d_are_names := df_of X G a2 l2 c2 k2 (fun _ _ _ _ _ _ us hl => match us, hl with | [_], _ => rfl),
    d_is_number := df_of X G a3 l3 c3 k3 (fun _ _ _ _ _ _ us hl => match us, hl with | [_], _ => rfl),
    d_is_rest := df_of X G a4 l4 c4 k4 (fun _ _ _ _ _ _ us hl => match us, hl with | [_, _], _ => rfl),
    d_contrary := df_of X G a5 l5 c5 k5 (fun _ _ _ _ _ _ us hl => match us, hl with | [_, _], _ => rfl),
    d_is_row := df_of X G a6 l6 c6 k6 (fun _ _ _ _ _ _ us hl => match us, hl with | [_, _, _], _ => rfl),
    d_added := df_of X G a7 l7 c7 k7 (fun _ _ _ _ _ _ us hl => match us, hl with | [_, _, _], _ => rfl),
    d_times := df_of X G a8 l8 c8 k8 (fun _ _ _ _ _ _ us hl => match us, hl with | [_, _, _], _ => rfl),
    d_check_hand := df_of X G a9 l9 c9 k9 (fun _ _ _ _ _ _ us hl => match us, hl with | [_, _], _ => rfl),
    d_check_hands := df_of X G a10 l10 c10 k10 (fun _ _ _ _ _ _ us hl => match us, hl with | [_, _, _], _ => rfl),
    d_check_row := df_of X G a11 l11 c11 k11 (fun _ _ _ _ _ _ us hl => match us, hl with | [_, _, _], _ => rfl),
    d_is_noughts := df_of X G a12 l12 c12 k12 (fun _ _ _ _ _ _ us hl => match us, hl with | [_], _ => rfl),
    d_first_place := df_of X G a13 l13 c13 k13 (fun _ _ _ _ _ _ us hl => match us, hl with | [_], _ => rfl),
    d_cleared := df_of X G a14 l14 c14 k14 (fun _ _ _ _ _ _ us hl => match us, hl with | [_, _, _], _ => rfl),
    d_left_of := df_of X G a15 l15 c15 k15 (fun _ _ _ _ _ _ us hl => match us, hl with | [_, _, _], _ => rfl),
    d_widened := df_of X G a16 l16 c16 k16 (fun _ _ _ _ _ _ us hl => match us, hl with | [_, _, _], _ => rfl),
    d_room_of := df_of X G a17 l17 c17 k17 (fun _ _ _ _ _ _ us hl => match us, hl with | [_, _, _], _ => rfl),
    d_within := df_of X G a18 l18 c18 k18 (fun _ _ _ _ _ _ us hl => match us, hl with | [_, _, _], _ => rfl),
    d_names_of := df_of X G a19 l19 c19 k19 (fun _ _ _ _ _ _ us hl => match us, hl with | [_], _ => rfl),
    d_room_in := df_of X G a20 l20 c20 k20 (fun _ _ _ _ _ _ us hl => match us, hl with | [_, _], _ => rfl),
    d_behind := df_of X G a21 l21 c21 k21 (fun _ _ _ _ _ _ us hl => match us, hl with | [_, _, _], _ => rfl),
    d_names_at := df_of X G a22 l22 c22 k22 (fun _ _ _ _ _ _ us hl => match us, hl with | [_], _ => rfl),
    d_heard_at := df_of X G a23 l23 c23 k23 (fun _ _ _ _ _ _ us hl => match us, hl with | [_, _], _ => rfl),
    d_known_at := df_of X G a24 l24 c24 k24 (fun _ _ _ _ _ _ us hl => match us, hl with | [_, _], _ => rfl),
    d_gained := df_of X G a25 l25 c25 k25 (fun _ _ _ _ _ _ us hl => match us, hl with | [_, _], _ => rfl),
    d_after_call := df_of X G a26 l26 c26 k26 (fun _ _ _ _ _ _ us hl => match us, hl with | [_, _, _], _ => rfl),
    d_after_whisper := df_of X G a27 l27 c27 k27 (fun _ _ _ _ _ _ us hl => match us, hl with | [_, _, _], _ => rfl),
    d_after := df_of X G a28 l28 c28 k28 (fun _ _ _ _ _ _ us hl => match us, hl with | [_, _], _ => rfl),
    d__law_deck := df_of X G a29 l29 c29 k29 (fun _ _ _ _ _ _ us hl => match us, hl with | [_], _ => rfl),
    d__law_draw := df_of X G a30 l30 c30 k30 (fun _ _ _ _ _ _ us hl => match us, hl with | [_, _], _ => rfl),
    d__law_prime := df_of X G a31 l31 c31 k31 (fun _ _ _ _ _ _ us hl => match us, hl with | [_], _ => rfl),
    d__law_row := df_of X G a32 l32 c32 k32 (fun _ _ _ _ _ _ us hl => match us, hl with | [_, _, _], _ => rfl),
    d__law_plus := df_of X G a33 l33 c33 k33 (fun _ _ _ _ _ _ us hl => match us, hl with | [_, _, _, _], _ => rfl),
    d__law_mixed := df_of X G a34 l34 c34 k34 (fun _ _ _ _ _ _ us hl => match us, hl with | [_, _, _, _], _ => rfl),
    d__law_rows := df_of X G a35 l35 c35 k35 (fun _ _ _ _ _ _ us hl => match us, hl with | [_, _, _, _], _ => rfl),
    d__law_contrary := df_of X G a36 l36 c36 k36 (fun _ _ _ _ _ _ us hl => match us, hl with | [_, _], _ => rfl),
    d__law_less := df_of X G a37 l37 c37 k37 (fun _ _ _ _ _ _ us hl => match us, hl with | [_, _, _, _], _ => rfl),
    d__law_plain := df_of X G a38 l38 c38 k38 (fun _ _ _ _ _ _ us hl => match us, hl with | [_, _, _], _ => rfl),
    d__law_turned := df_of X G a39 l39 c39 k39 (fun _ _ _ _ _ _ us hl => match us, hl with | [_, _], _ => rfl),
    d__law_names := df_of X G a40 l40 c40 k40 (fun _ _ _ _ _ _ us hl => match us, hl with | [_, _], _ => rfl),
    d__law_stand := df_of X G a41 l41 c41 k41 (fun _ _ _ _ _ _ us hl => match us, hl with | [_, _, _, _], _ => rfl),
    d__law_has := df_of X G a42 l42 c42 k42 (fun _ _ _ _ _ _ us hl => match us, hl with | [_, _, _, _], _ => rfl),
    d__law_calls := df_of X G a43 l43 c43 k43 (fun _ _ _ _ _ _ us hl => match us, hl with | [_, _], _ => rfl),
    d__law_callers := df_of X G a44 l44 c44 k44 (fun _ _ _ _ _ _ us hl => match us, hl with | [_, _], _ => rfl),
    d__law_otherwise := df_of X G a45 l45 c45 k45 (fun _ _ _ _ _ _ us hl => match us, hl with | [_, _, _], _ => rfl),
    d__law_behind := df_of X G a46 l46 c46 k46 (fun _ _ _ _ _ _ us hl => match us, hl with | [_, _], _ => rfl),
    d__law_due := df_of X G a47 l47 c47 k47 (fun _ _ _ _ _ _ us hl => match us, hl with | [_, _], _ => rfl),
    d__law_learned := df_of X G a48 l48 c48 k48 (fun _ _ _ _ _ _ us hl => match us, hl with | [_, _], _ => rfl) }
  have gS := PySem.W.mg_of X G qS
  have W : StepsW w K mg := ⟨by rw [adr_of gS]; exact gS, fun x f hf => by
    rw [adr_of gS]
    simp only [List.mem_cons, List.not_mem_nil, or_false, Prod.mk.injEq] at hf
    rcases hf with ⟨rfl, rfl⟩ | ⟨rfl, rfl⟩
    · rw [adr_of (PySem.W.mg_of X G a26)]; exact ⟨esS, nS, _, qD, qL, x_call, rfl⟩
    · rw [adr_of (PySem.W.mg_of X G a27)]; exact ⟨esS, nS, _, qD, qL, x_whisper, rfl⟩⟩
  have F := fun_mk (st := s_law) l49 c49 k49
  exact ⟨PySem.W.fnOf "law" "law" (defArgs s_law) (defBody s_law) (defScope s_law) .none kV49 dc49 pm49 an49 cd49 ct49, fun s v => .of_eq rfl, fun base _ _ hs => ok_law T W hs F⟩
end OC
open PySem PySem.W PyProof.Rows
set_option Elab.async false
set_option maxRecDepth 100000 in
set_option maxHeartbeats 0 in
theorem PySem.Challenge.cw_opencalls_k80_whole_calls_in_any_order_holds : PySem.Challenge.rw_opencalls_k80_whole_calls_in_any_order.Holds := by
  w_on; o_law
  refine HandSHeadRun.head_any (r := OpenLaw.row PySem.Challenge.rw_opencalls_k80_whole_calls_in_any_order) (q := view (OpenLaw.row PySem.Challenge.rw_opencalls_k80_whole_calls_in_any_order).prog [95]) (H := kHook OCR.K0 OCR.as0 OCR.as_ok) (ob := OCR.ob) (M := 20000) (loose := OCR.names) (d := HandSHeadRun.topDef (OpenLaw.row PySem.Challenge.rw_opencalls_k80_whole_calls_in_any_order).prog 95) (kwd := []) OCR.ob_eq
    (by kernel_rfl) (fun s => by kernel_rfl) OCR.run (by kernel_rfl) (by kernel_rfl) (by kernel_rfl) (by rfl) (by first | assumption | decide +kernel) (by decide +kernel) ⟨rfl, rfl, rfl, rfl, rfl, by decide +kernel⟩ ?hw ?hc
  case hw => w_witness2
  case hc =>
    k_fill
    refine OC.walk_ofS (l := PySem.Challenge.rw_opencalls_k80_whole_calls_in_any_order) (n := 63) (k := 15) (x := "_law_script") (CX := fun _ => L2.CX0) (sp := fun w => OC.sp_law _) rfl (by decide) (by kernel_rfl) ⟨rfl, by decide, by decide⟩ (by decide +kernel) (K := OCR.K0) (fun w h Y => PySem.W.kIn_of Y) ?F (fun _ _ a ns hl _ hS => ⟨a, ns, rfl, hS, hl, fun _ => rfl⟩) (fun _ _ _ _ _ h => h)
    case F =>
      intro w mg fa h KX G hmg0
      have hmg : mg ("law" : PySem.Str) = some (.ref fa) := by
        have e : (HandSHeadRun.topDef (OpenLaw.row PySem.Challenge.rw_opencalls_k80_whole_calls_in_any_order).prog 95).name = ("law" : PySem.Str) := by kernel_rfl
        rw [← e]
        exact hmg0
      refine' OC.all_mk KX G hmg ?qaMoment ?qpMoment ?qhMoment ?qoMoment ?qsMoment ?qmMoment ?qkMoment ?qnMoment_p ?qnMoment_n ?qnMoment_called ?qnMoment_hands ?qaBook ?qpBook ?qhBook ?qoBook ?qsBook ?qmBook ?qkBook ?qnBook_made ?qnBook_moments ?qnBook_done ?qnBook_trials ?qnBook_amid ?qcLETTERS ?qcDEEDS ?a0 ?l0 ?c0 ?k0 ?a1 ?l1 ?c1 ?k1 ?a2 ?l2 ?c2 ?k2 ?a3 ?l3 ?c3 ?k3 ?a4 ?l4 ?c4 ?k4 ?a5 ?l5 ?c5 ?k5 ?a6 ?l6 ?c6 ?k6 ?a7 ?l7 ?c7 ?k7 ?a8 ?l8 ?c8 ?k8 ?a9 ?l9 ?c9 ?k9 ?a10 ?l10 ?c10 ?k10 ?a11 ?l11 ?c11 ?k11 ?a12 ?l12 ?c12 ?k12 ?a13 ?l13 ?c13 ?k13 ?a14 ?l14 ?c14 ?k14 ?a15 ?l15 ?c15 ?k15 ?a16 ?l16 ?c16 ?k16 ?a17 ?l17 ?c17 ?k17 ?a18 ?l18 ?c18 ?k18 ?a19 ?l19 ?c19 ?k19 ?a20 ?l20 ?c20 ?k20 ?a21 ?l21 ?c21 ?k21 ?a22 ?l22 ?c22 ?k22 ?a23 ?l23 ?c23 ?k23 ?a24 ?l24 ?c24 ?k24 ?a25 ?l25 ?c25 ?k25 ?a26 ?l26 ?c26 ?k26 ?a27 ?l27 ?c27 ?k27 ?a28 ?l28 ?c28 ?k28 ?a29 ?l29 ?c29 ?k29 ?a30 ?l30 ?c30 ?k30 ?a31 ?l31 ?c31 ?k31 ?a32 ?l32 ?c32 ?k32 ?a33 ?l33 ?c33 ?k33 ?a34 ?l34 ?c34 ?k34 ?a35 ?l35 ?c35 ?k35 ?a36 ?l36 ?c36 ?k36 ?a37 ?l37 ?c37 ?k37 ?a38 ?l38 ?c38 ?k38 ?a39 ?l39 ?c39 ?k39 ?a40 ?l40 ?c40 ?k40 ?a41 ?l41 ?c41 ?k41 ?a42 ?l42 ?c42 ?k42 ?a43 ?l43 ?c43 ?k43 ?a44 ?l44 ?c44 ?k44 ?a45 ?l45 ?c45 ?k45 ?a46 ?l46 ?c46 ?k46 ?a47 ?l47 ?c47 ?k47 ?a48 ?l48 ?c48 ?k48 ?a49 ?l49 ?c49 ?k49 ?a50 ?i50 ?l50 ?c50 ?k50 ?a51 ?i51 ?l51 ?c51 ?k51 ?a52 ?i52 ?l52 ?c52 ?k52 ?a53 ?i53 ?l53 ?c53 ?k53 ?a54 ?i54 ?l54 ?c54 ?k54 ?a55 ?i55 ?l55 ?c55 ?k55 ?a56 ?i56 ?l56 ?c56 ?k56 ?a57 ?i57 ?l57 ?c57 ?k57 ?a58 ?i58 ?l58 ?c58 ?k58 ?a59 ?i59 ?l59 ?c59 ?k59 ?z_abs ?z_all ?z_bool ?z_enumerate ?z_int ?z_isinstance ?z_len ?z_list ?z_range ?z_repr ?z_sorted ?z_str ?z_tuple ?z_zip ?qS ?qD ?qL ?x_call ?x_whisper
      (case qaMoment => k_is); (case qpMoment => k_is); (case qhMoment => k_is); (case qoMoment => k_is); (case qsMoment => k_is); (case qmMoment => k_is); (case qkMoment => k_is); (case qnMoment_p => k_is); (case qnMoment_n => k_is); (case qnMoment_called => k_is); (case qnMoment_hands => k_is); (case qaBook => k_is); (case qpBook => k_is); (case qhBook => k_is); (case qoBook => k_is); (case qsBook => k_is); (case qmBook => k_is); (case qkBook => k_is); (case qnBook_made => k_is); (case qnBook_moments => k_is); (case qnBook_done => k_is); (case qnBook_trials => k_is); (case qnBook_amid => k_is); (case qcLETTERS => k_is); (case qcDEEDS => k_is); (case a0 => k_is); (case l0 => k_is); (case c0 => k_is); (case k0 => k_is); (case a1 => k_is); (case l1 => k_is); (case c1 => k_is); (case k1 => k_is); (case a2 => k_is); (case l2 => k_is); (case c2 => k_is); (case k2 => k_is); (case a3 => k_is); (case l3 => k_is); (case c3 => k_is); (case k3 => k_is); (case a4 => k_is); (case l4 => k_is); (case c4 => k_is); (case k4 => k_is); (case a5 => k_is); (case l5 => k_is); (case c5 => k_is); (case k5 => k_is); (case a6 => k_is); (case l6 => k_is); (case c6 => k_is); (case k6 => k_is); (case a7 => k_is); (case l7 => k_is); (case c7 => k_is); (case k7 => k_is); (case a8 => k_is); (case l8 => k_is); (case c8 => k_is); (case k8 => k_is); (case a9 => k_is); (case l9 => k_is); (case c9 => k_is); (case k9 => k_is); (case a10 => k_is); (case l10 => k_is); (case c10 => k_is); (case k10 => k_is); (case a11 => k_is); (case l11 => k_is); (case c11 => k_is); (case k11 => k_is); (case a12 => k_is); (case l12 => k_is); (case c12 => k_is); (case k12 => k_is); (case a13 => k_is); (case l13 => k_is); (case c13 => k_is); (case k13 => k_is); (case a14 => k_is); (case l14 => k_is); (case c14 => k_is); (case k14 => k_is); (case a15 => k_is); (case l15 => k_is); (case c15 => k_is); (case k15 => k_is); (case a16 => k_is); (case l16 => k_is); (case c16 => k_is); (case k16 => k_is); (case a17 => k_is); (case l17 => k_is); (case c17 => k_is); (case k17 => k_is); (case a18 => k_is); (case l18 => k_is); (case c18 => k_is); (case k18 => k_is); (case a19 => k_is); (case l19 => k_is); (case c19 => k_is); (case k19 => k_is); (case a20 => k_is); (case l20 => k_is); (case c20 => k_is); (case k20 => k_is); (case a21 => k_is); (case l21 => k_is); (case c21 => k_is); (case k21 => k_is); (case a22 => k_is); (case l22 => k_is); (case c22 => k_is); (case k22 => k_is); (case a23 => k_is); (case l23 => k_is); (case c23 => k_is); (case k23 => k_is); (case a24 => k_is); (case l24 => k_is); (case c24 => k_is); (case k24 => k_is); (case a25 => k_is); (case l25 => k_is); (case c25 => k_is); (case k25 => k_is); (case a26 => k_is); (case l26 => k_is); (case c26 => k_is); (case k26 => k_is); (case a27 => k_is); (case l27 => k_is); (case c27 => k_is); (case k27 => k_is); (case a28 => k_is); (case l28 => k_is); (case c28 => k_is); (case k28 => k_is); (case a29 => k_is); (case l29 => k_is); (case c29 => k_is); (case k29 => k_is); (case a30 => k_is); (case l30 => k_is); (case c30 => k_is); (case k30 => k_is); (case a31 => k_is); (case l31 => k_is); (case c31 => k_is); (case k31 => k_is); (case a32 => k_is); (case l32 => k_is); (case c32 => k_is); (case k32 => k_is); (case a33 => k_is); (case l33 => k_is); (case c33 => k_is); (case k33 => k_is); (case a34 => k_is); (case l34 => k_is); (case c34 => k_is); (case k34 => k_is); (case a35 => k_is); (case l35 => k_is); (case c35 => k_is); (case k35 => k_is); (case a36 => k_is); (case l36 => k_is); (case c36 => k_is); (case k36 => k_is); (case a37 => k_is); (case l37 => k_is); (case c37 => k_is); (case k37 => k_is); (case a38 => k_is); (case l38 => k_is); (case c38 => k_is); (case k38 => k_is); (case a39 => k_is); (case l39 => k_is); (case c39 => k_is); (case k39 => k_is); (case a40 => k_is); (case l40 => k_is); (case c40 => k_is); (case k40 => k_is); (case a41 => k_is); (case l41 => k_is); (case c41 => k_is); (case k41 => k_is); (case a42 => k_is); (case l42 => k_is); (case c42 => k_is); (case k42 => k_is); (case a43 => k_is); (case l43 => k_is); (case c43 => k_is); (case k43 => k_is); (case a44 => k_is); (case l44 => k_is); (case c44 => k_is); (case k44 => k_is); (case a45 => k_is); (case l45 => k_is); (case c45 => k_is); (case k45 => k_is); (case a46 => k_is); (case l46 => k_is); (case c46 => k_is); (case k46 => k_is); (case a47 => k_is); (case l47 => k_is); (case c47 => k_is); (case k47 => k_is); (case a48 => k_is); (case l48 => k_is); (case c48 => k_is); (case k48 => k_is); (case a49 => k_is); (case l49 => k_is); (case c49 => k_is); (case k49 => k_is); (case a50 => k_is); (case i50 => k_is); (case l50 => k_is); (case c50 => k_is); (case k50 => k_is); (case a51 => k_is); (case i51 => k_is); (case l51 => k_is); (case c51 => k_is); (case k51 => k_is); (case a52 => k_is); (case i52 => k_is); (case l52 => k_is); (case c52 => k_is); (case k52 => k_is); (case a53 => k_is); (case i53 => k_is); (case l53 => k_is); (case c53 => k_is); (case k53 => k_is); (case a54 => k_is); (case i54 => k_is); (case l54 => k_is); (case c54 => k_is); (case k54 => k_is); (case a55 => k_is); (case i55 => k_is); (case l55 => k_is); (case c55 => k_is); (case k55 => k_is); (case a56 => k_is); (case i56 => k_is); (case l56 => k_is); (case c56 => k_is); (case k56 => k_is); (case a57 => k_is); (case i57 => k_is); (case l57 => k_is); (case c57 => k_is); (case k57 => k_is); (case a58 => k_is); (case i58 => k_is); (case l58 => k_is); (case c58 => k_is); (case k58 => k_is); (case a59 => k_is); (case i59 => k_is); (case l59 => k_is); (case c59 => k_is); (case k59 => k_is); (case z_abs => k_is); (case z_all => k_is); (case z_bool => k_is); (case z_enumerate => k_is); (case z_int => k_is); (case z_isinstance => k_is); (case z_len => k_is); (case z_list => k_is); (case z_range => k_is); (case z_repr => k_is); (case z_sorted => k_is); (case z_str => k_is); (case z_tuple => k_is); (case z_zip => k_is); (case qS => k_is); (case qD => k_is); (case qL => exact ⟨⟨_, _, rfl, rfl⟩, ⟨_, _, rfl, rfl⟩, ⟨_, _, rfl, rfl⟩, ⟨_, _, rfl, rfl⟩, ⟨_, _, rfl, rfl⟩, ⟨_, _, rfl, rfl⟩, ⟨_, _, rfl, rfl⟩, trivial⟩); (case x_call => k_is); (case x_whisper => k_is)
