import PyProof.Rows.All
import Wide.All
import OpenK.AllK
import Wide.FinOn
import HandS.Base
import HandS.Words
import HandS.More
import HandS.Head2
import KE.KNestM
import HandS.Call
import HandS.List
import HandS.Comp
import HandS.Ends
import HandS.Dict
import HandS.Iter
import HandS.Text
import HandS.WordsList
import HandS.WordsDict
import HandS.IsInst
import HandS.Zip
import HandS.Conv
import HandS.Walk
import HandS.Style
import HandS.TupAny
import HandS.TupMul
import HandS.EndBits
import HandS.Codes
import KE.GoesMore
import HandS.SortKw
import HandS.TupSets
import KE.KDictDisplayH
import KE.DatumOrd
import HandS.SortOrd
import HandS.Wide
import PyProof.StrLawsRepr
import HandS.Exc
import HandS.ExcOwn
import HandS.WordsExc
import HandS.ExcIs
import KE.GoesZip
import HandS.Strs
import KE.SortData
import KE.KDictPairs
import HandS.Lambda
import KE.DataMinKey
import HandS.EndTab
import KE.KNest
import KE.DataMinMax
import HandS.Defaults
import PyProof.Rows.StrMeet
import PyProof.EqKinds
import PyProof.NeKinds
import KE.DataCmp
import HandS.Star
import HandS.CallLocal
import HandS.TupLen
import HandS.SlotsOwn
import HandS.Deep
import HandS.Rev
import PySem.Challenge.RW_opencalls_k79_whole_rooms_alone
set_option Elab.async false
set_option linter.all false
set_option maxRecDepth 100000
/-! the objects that the top leaves, as far as they are asked for; the top's run -/
namespace OCR
open PySem PySem.Spec PyProof.Rows L2
def topR (i : Nat) : Stmt := PySem.Challenge.pw_opencalls_k79_whole_rooms_alone.main.body.getD i (.Pass ⟨0, 0, 0, 0⟩)
def K0 (P : PySem.Params) : PySem.W.Frag :=
  (nat_lit 2, ⟨.none, none, (.dict (List.toArray ([])) 0), #[]⟩) ::
  (nat_lit 3, ⟨(.type "dict"), none, (.dict (List.toArray (⟨PySem.PyData.keyHash P (PySem.Str.ofString "__name__"), .str (PySem.Str.ofString "__name__") 165, (.str (PySem.Str.ofString "law_opencalls_k79_whole_rooms_alone") 1196)⟩ :: ⟨PySem.PyData.keyHash P (PySem.Str.ofString "__doc__"), .str (PySem.Str.ofString "__doc__") 166, .none⟩ :: ⟨PySem.PyData.keyHash P (PySem.Str.ofString "__package__"), .str (PySem.Str.ofString "__package__") 167, .none⟩ :: ⟨PySem.PyData.keyHash P (PySem.Str.ofString "__loader__"), .str (PySem.Str.ofString "__loader__") 168, (.builtin "__main__.__loader__#opaque")⟩ :: ⟨PySem.PyData.keyHash P (PySem.Str.ofString "__spec__"), .str (PySem.Str.ofString "__spec__") 169, .none⟩ :: ⟨PySem.PyData.keyHash P (PySem.Str.ofString "__annotations__"), .str (PySem.Str.ofString "__annotations__") 170, (.ref 6)⟩ :: ⟨PySem.PyData.keyHash P (PySem.Str.ofString "__builtins__"), .str (PySem.Str.ofString "__builtins__") 171, (.ref 4)⟩ :: ⟨PySem.PyData.keyHash P (PySem.Str.ofString "__file__"), .str (PySem.Str.ofString "__file__") 173, (.str (PySem.Str.ofString "/claim/cut.py") 172)⟩ :: ⟨PySem.PyData.keyHash P (PySem.Str.ofString "__cached__"), .str (PySem.Str.ofString "__cached__") 174, .none⟩ :: ⟨PySem.PyData.keyHash P (PySem.Str.ofString "_wall"), .str (PySem.Str.ofString "_wall") 193, (.ref 21)⟩ :: ⟨PySem.PyData.keyHash P (PySem.Str.ofString "CallError"), .str (PySem.Str.ofString "CallError") 213, (.ref 31)⟩ :: ⟨PySem.PyData.keyHash P (PySem.Str.ofString "NoRow"), .str (PySem.Str.ofString "NoRow") 229, (.ref 44)⟩ :: ⟨PySem.PyData.keyHash P (PySem.Str.ofString "NotKnown"), .str (PySem.Str.ofString "NotKnown") 254, (.ref 63)⟩ :: ⟨PySem.PyData.keyHash P (PySem.Str.ofString "NoGroup"), .str (PySem.Str.ofString "NoGroup") 270, (.ref 75)⟩ :: ⟨PySem.PyData.keyHash P (PySem.Str.ofString "Full"), .str (PySem.Str.ofString "Full") 286, (.ref 87)⟩ :: ⟨PySem.PyData.keyHash P (PySem.Str.ofString "NoPlace"), .str (PySem.Str.ofString "NoPlace") 311, (.ref 106)⟩ :: ⟨PySem.PyData.keyHash P (PySem.Str.ofString "NoTurn"), .str (PySem.Str.ofString "NoTurn") 327, (.ref 118)⟩ :: ⟨PySem.PyData.keyHash P (PySem.Str.ofString "NoName"), .str (PySem.Str.ofString "NoName") 352, (.ref 137)⟩ :: ⟨PySem.PyData.keyHash P (PySem.Str.ofString "Taken"), .str (PySem.Str.ofString "Taken") 377, (.ref 156)⟩ :: ⟨PySem.PyData.keyHash P (PySem.Str.ofString "Few"), .str (PySem.Str.ofString "Few") 393, (.ref 168)⟩ :: ⟨PySem.PyData.keyHash P (PySem.Str.ofString "NothingBack"), .str (PySem.Str.ofString "NothingBack") 409, (.ref 180)⟩ :: ⟨PySem.PyData.keyHash P (PySem.Str.ofString "Long"), .str (PySem.Str.ofString "Long") 425, (.ref 192)⟩ :: ⟨PySem.PyData.keyHash P (PySem.Str.ofString "Busy"), .str (PySem.Str.ofString "Busy") 441, (.ref 204)⟩ :: ⟨PySem.PyData.keyHash P (PySem.Str.ofString "NoHand"), .str (PySem.Str.ofString "NoHand") 468, (.ref 223)⟩ :: ⟨PySem.PyData.keyHash P (PySem.Str.ofString "NoMoment"), .str (PySem.Str.ofString "NoMoment") 495, (.ref 243)⟩ :: ⟨PySem.PyData.keyHash P (PySem.Str.ofString "LETTERS"), .str (PySem.Str.ofString "LETTERS") 499, (.str (PySem.Str.ofString "abcdefghijklmnopqrstuvwxyz") 498)⟩ :: ⟨PySem.PyData.keyHash P (PySem.Str.ofString "is_name"), .str (PySem.Str.ofString "is_name") 505, (.ref 251)⟩ :: ⟨PySem.PyData.keyHash P (PySem.Str.ofString "is_rising"), .str (PySem.Str.ofString "is_rising") 511, (.ref 256)⟩ :: ⟨PySem.PyData.keyHash P (PySem.Str.ofString "are_names"), .str (PySem.Str.ofString "are_names") 517, (.ref 261)⟩ :: ⟨PySem.PyData.keyHash P (PySem.Str.ofString "is_number"), .str (PySem.Str.ofString "is_number") 526, (.ref 268)⟩ :: ⟨PySem.PyData.keyHash P (PySem.Str.ofString "is_rest"), .str (PySem.Str.ofString "is_rest") 534, (.ref 275)⟩ :: ⟨PySem.PyData.keyHash P (PySem.Str.ofString "contrary"), .str (PySem.Str.ofString "contrary") 543, (.ref 282)⟩ :: ⟨PySem.PyData.keyHash P (PySem.Str.ofString "is_row"), .str (PySem.Str.ofString "is_row") 551, (.ref 287)⟩ :: ⟨PySem.PyData.keyHash P (PySem.Str.ofString "added"), .str (PySem.Str.ofString "added") 557, (.ref 292)⟩ :: ⟨PySem.PyData.keyHash P (PySem.Str.ofString "times"), .str (PySem.Str.ofString "times") 563, (.ref 297)⟩ :: ⟨PySem.PyData.keyHash P (PySem.Str.ofString "check_hand"), .str (PySem.Str.ofString "check_hand") 573, (.ref 304)⟩ :: ⟨PySem.PyData.keyHash P (PySem.Str.ofString "check_hands"), .str (PySem.Str.ofString "check_hands") 583, (.ref 311)⟩ :: ⟨PySem.PyData.keyHash P (PySem.Str.ofString "check_row"), .str (PySem.Str.ofString "check_row") 592, (.ref 318)⟩ :: ⟨PySem.PyData.keyHash P (PySem.Str.ofString "led"), .str (PySem.Str.ofString "led") 606, (.ref 325)⟩ :: ⟨PySem.PyData.keyHash P (PySem.Str.ofString "is_noughts"), .str (PySem.Str.ofString "is_noughts") 614, (.ref 330)⟩ :: ⟨PySem.PyData.keyHash P (PySem.Str.ofString "first_place"), .str (PySem.Str.ofString "first_place") 623, (.ref 337)⟩ :: ⟨PySem.PyData.keyHash P (PySem.Str.ofString "cleared"), .str (PySem.Str.ofString "cleared") 633, (.ref 344)⟩ :: ⟨PySem.PyData.keyHash P (PySem.Str.ofString "left_of"), .str (PySem.Str.ofString "left_of") 643, (.ref 351)⟩ :: ⟨PySem.PyData.keyHash P (PySem.Str.ofString "widened"), .str (PySem.Str.ofString "widened") 649, (.ref 356)⟩ :: ⟨PySem.PyData.keyHash P (PySem.Str.ofString "room_of"), .str (PySem.Str.ofString "room_of") 660, (.ref 363)⟩ :: ⟨PySem.PyData.keyHash P (PySem.Str.ofString "within"), .str (PySem.Str.ofString "within") 669, (.ref 370)⟩ :: ⟨PySem.PyData.keyHash P (PySem.Str.ofString "joined"), .str (PySem.Str.ofString "joined") 679, (.ref 377)⟩ :: ⟨PySem.PyData.keyHash P (PySem.Str.ofString "shared"), .str (PySem.Str.ofString "shared") 689, (.ref 384)⟩ :: ⟨PySem.PyData.keyHash P (PySem.Str.ofString "across"), .str (PySem.Str.ofString "across") 695, (.ref 389)⟩ :: ⟨PySem.PyData.keyHash P (PySem.Str.ofString "across_at"), .str (PySem.Str.ofString "across_at") 707, (.ref 396)⟩ :: ⟨PySem.PyData.keyHash P (PySem.Str.ofString "needed"), .str (PySem.Str.ofString "needed") 722, (.ref 403)⟩ :: ⟨PySem.PyData.keyHash P (PySem.Str.ofString "Moment"), .str (PySem.Str.ofString "Moment") 759, (.ref 420)⟩ :: ⟨PySem.PyData.keyHash P (PySem.Str.ofString "names_at"), .str (PySem.Str.ofString "names_at") 765, (.ref 429)⟩ :: ⟨PySem.PyData.keyHash P (PySem.Str.ofString "heard_at"), .str (PySem.Str.ofString "heard_at") 776, (.ref 436)⟩ :: ⟨PySem.PyData.keyHash P (PySem.Str.ofString "known_at"), .str (PySem.Str.ofString "known_at") 784, (.ref 443)⟩ :: ⟨PySem.PyData.keyHash P (PySem.Str.ofString "common_at"), .str (PySem.Str.ofString "common_at") 794, (.ref 450)⟩ :: ⟨PySem.PyData.keyHash P (PySem.Str.ofString "stand_at"), .str (PySem.Str.ofString "stand_at") 800, (.ref 455)⟩ :: ⟨PySem.PyData.keyHash P (PySem.Str.ofString "are_first_rows"), .str (PySem.Str.ofString "are_first_rows") 808, (.ref 460)⟩ :: ⟨PySem.PyData.keyHash P (PySem.Str.ofString "after_call"), .str (PySem.Str.ofString "after_call") 814, (.ref 465)⟩ :: ⟨PySem.PyData.keyHash P (PySem.Str.ofString "after_whisper"), .str (PySem.Str.ofString "after_whisper") 820, (.ref 470)⟩ :: ⟨PySem.PyData.keyHash P (PySem.Str.ofString "after_meet"), .str (PySem.Str.ofString "after_meet") 826, (.ref 475)⟩ :: ⟨PySem.PyData.keyHash P (PySem.Str.ofString "news"), .str (PySem.Str.ofString "news") 832, (.ref 480)⟩ :: ⟨PySem.PyData.keyHash P (PySem.Str.ofString "after_hide"), .str (PySem.Str.ofString "after_hide") 838, (.ref 485)⟩ :: ⟨PySem.PyData.keyHash P (PySem.Str.ofString "longer"), .str (PySem.Str.ofString "longer") 844, (.ref 490)⟩ :: ⟨PySem.PyData.keyHash P (PySem.Str.ofString "after_change"), .str (PySem.Str.ofString "after_change") 850, (.ref 495)⟩ :: ⟨PySem.PyData.keyHash P (PySem.Str.ofString "all_led"), .str (PySem.Str.ofString "all_led") 856, (.ref 500)⟩ :: ⟨PySem.PyData.keyHash P (PySem.Str.ofString "after_come"), .str (PySem.Str.ofString "after_come") 866, (.ref 507)⟩ :: ⟨PySem.PyData.keyHash P (PySem.Str.ofString "after_go"), .str (PySem.Str.ofString "after_go") 872, (.ref 512)⟩ :: ⟨PySem.PyData.keyHash P (PySem.Str.ofString "STEPS"), .str (PySem.Str.ofString "STEPS") 887, (.ref 513)⟩ :: ⟨PySem.PyData.keyHash P (PySem.Str.ofString "after"), .str (PySem.Str.ofString "after") 897, (.ref 520)⟩ :: ⟨PySem.PyData.keyHash P (PySem.Str.ofString "DEEDS"), .str (PySem.Str.ofString "DEEDS") 901, (.int (60) 900)⟩ :: ⟨PySem.PyData.keyHash P (PySem.Str.ofString "Book"), .str (PySem.Str.ofString "Book") 1195, (.ref 755)⟩ :: ⟨PySem.PyData.keyHash P (PySem.Str.ofString "_law_deck"), .str (PySem.Str.ofString "_law_deck") 1203, (.ref 764)⟩ :: ⟨PySem.PyData.keyHash P (PySem.Str.ofString "_law_draw"), .str (PySem.Str.ofString "_law_draw") 1213, (.ref 771)⟩ :: ⟨PySem.PyData.keyHash P (PySem.Str.ofString "_law_prime"), .str (PySem.Str.ofString "_law_prime") 1220, (.ref 778)⟩ :: ⟨PySem.PyData.keyHash P (PySem.Str.ofString "_law_row"), .str (PySem.Str.ofString "_law_row") 1226, (.ref 783)⟩ :: ⟨PySem.PyData.keyHash P (PySem.Str.ofString "_law_plus"), .str (PySem.Str.ofString "_law_plus") 1232, (.ref 788)⟩ :: ⟨PySem.PyData.keyHash P (PySem.Str.ofString "_law_mixed"), .str (PySem.Str.ofString "_law_mixed") 1244, (.ref 795)⟩ :: ⟨PySem.PyData.keyHash P (PySem.Str.ofString "_law_rows"), .str (PySem.Str.ofString "_law_rows") 1257, (.ref 802)⟩ :: ⟨PySem.PyData.keyHash P (PySem.Str.ofString "_law_turned"), .str (PySem.Str.ofString "_law_turned") 1263, (.ref 807)⟩ :: ⟨PySem.PyData.keyHash P (PySem.Str.ofString "_law_names"), .str (PySem.Str.ofString "_law_names") 1269, (.ref 812)⟩ :: ⟨PySem.PyData.keyHash P (PySem.Str.ofString "_law_otherwise"), .str (PySem.Str.ofString "_law_otherwise") 1282, (.ref 819)⟩ :: ⟨PySem.PyData.keyHash P (PySem.Str.ofString "_law_deed"), .str (PySem.Str.ofString "_law_deed") 1298, (.ref 826)⟩ :: ⟨PySem.PyData.keyHash P (PySem.Str.ofString "_law_alike"), .str (PySem.Str.ofString "_law_alike") 1304, (.ref 831)⟩ :: ⟨PySem.PyData.keyHash P (PySem.Str.ofString "law"), .str (PySem.Str.ofString "law") 1310, (.ref 836)⟩ :: [])) 85), #[]⟩) ::
  (nat_lit 30, ⟨(.type "dict"), none, (.dict (List.toArray (⟨PySem.PyData.keyHash P (PySem.Str.ofString "__module__"), .str (PySem.Str.ofString "__module__") 203, (.str (PySem.Str.ofString "opencalls.errors") 194)⟩ :: ⟨PySem.PyData.keyHash P (PySem.Str.ofString "__firstlineno__"), .str (PySem.Str.ofString "__firstlineno__") 207, (.int (5) 206)⟩ :: ⟨PySem.PyData.keyHash P (PySem.Str.ofString "__static_attributes__"), .str (PySem.Str.ofString "__static_attributes__") 208, (.ref 29)⟩ :: ⟨PySem.PyData.keyHash P (PySem.Str.ofString "__weakref__"), .str (PySem.Str.ofString "__weakref__") 210, (.ref 32)⟩ :: ⟨PySem.PyData.keyHash P (PySem.Str.ofString "__doc__"), .str (PySem.Str.ofString "__doc__") 211, .none⟩ :: [])) 3), #[]⟩) ::
  (nat_lit 31, ⟨(.type "type"), none, (.cls { name := (PySem.Str.ofString "CallError"), bases := [(.type "ValueError")], mro := [(.ref 31), (.type "ValueError"), (.type "Exception"), (.type "BaseException"), (.type "object")], ns := 30, qualname := (PySem.Str.ofString "CallError"), hasDict := true, slotNames := [], subclasses := [(.ref 44), (.ref 63), (.ref 75), (.ref 87), (.ref 106), (.ref 118), (.ref 137), (.ref 156), (.ref 168), (.ref 180), (.ref 192), (.ref 204)], abstract := false, collection := none, hasDel := false }), #[(some (.ref 22)), none, (some (.str (PySem.Str.ofString "CallError") 196)), (some (.str (PySem.Str.ofString "CallError") 204)), (some (.builtin "ValueError.__new__")), (some (.bool true))]⟩) ::
  (nat_lit 32, ⟨(.type "getset_descriptor"), none, (.fields #[(.str (PySem.Str.ofString "__weakref__") 209), (.ref 31), (.builtin "ExceptionGroup.__weakref__"), .none]), #[]⟩) ::
  (nat_lit 43, ⟨(.type "dict"), none, (.dict (List.toArray (⟨PySem.PyData.keyHash P (PySem.Str.ofString "__module__"), .str (PySem.Str.ofString "__module__") 221, (.str (PySem.Str.ofString "opencalls.errors") 194)⟩ :: ⟨PySem.PyData.keyHash P (PySem.Str.ofString "__firstlineno__"), .str (PySem.Str.ofString "__firstlineno__") 225, (.int (7) 224)⟩ :: ⟨PySem.PyData.keyHash P (PySem.Str.ofString "__static_attributes__"), .str (PySem.Str.ofString "__static_attributes__") 226, (.ref 42)⟩ :: ⟨PySem.PyData.keyHash P (PySem.Str.ofString "__doc__"), .str (PySem.Str.ofString "__doc__") 227, .none⟩ :: [])) 2), #[]⟩) ::
  (nat_lit 44, ⟨(.type "type"), none, (.cls { name := (PySem.Str.ofString "NoRow"), bases := [(.ref 31)], mro := [(.ref 44), (.ref 31), (.type "ValueError"), (.type "Exception"), (.type "BaseException"), (.type "object")], ns := 43, qualname := (PySem.Str.ofString "NoRow"), hasDict := true, slotNames := [], subclasses := [], abstract := false, collection := none, hasDel := false }), #[(some (.ref 35)), none, (some (.str (PySem.Str.ofString "NoRow") 214)), (some (.str (PySem.Str.ofString "NoRow") 222)), (some (.builtin "ValueError.__new__")), (some (.bool true))]⟩) ::
  (nat_lit 62, ⟨(.type "dict"), none, (.dict (List.toArray (⟨PySem.PyData.keyHash P (PySem.Str.ofString "__module__"), .str (PySem.Str.ofString "__module__") 237, (.str (PySem.Str.ofString "opencalls.errors") 194)⟩ :: ⟨PySem.PyData.keyHash P (PySem.Str.ofString "__firstlineno__"), .str (PySem.Str.ofString "__firstlineno__") 241, (.int (9) 240)⟩ :: ⟨PySem.PyData.keyHash P (PySem.Str.ofString "__init__"), .str (PySem.Str.ofString "__init__") 249, (.ref 60)⟩ :: ⟨PySem.PyData.keyHash P (PySem.Str.ofString "__static_attributes__"), .str (PySem.Str.ofString "__static_attributes__") 251, (.ref 61)⟩ :: ⟨PySem.PyData.keyHash P (PySem.Str.ofString "__doc__"), .str (PySem.Str.ofString "__doc__") 252, .none⟩ :: [])) 2), #[]⟩) ::
  (nat_lit 63, ⟨(.type "type"), none, (.cls { name := (PySem.Str.ofString "NotKnown"), bases := [(.ref 31)], mro := [(.ref 63), (.ref 31), (.type "ValueError"), (.type "Exception"), (.type "BaseException"), (.type "object")], ns := 62, qualname := (PySem.Str.ofString "NotKnown"), hasDict := true, slotNames := [], subclasses := [], abstract := false, collection := none, hasDel := false }), #[(some (.ref 47)), none, (some (.str (PySem.Str.ofString "NotKnown") 230)), (some (.str (PySem.Str.ofString "NotKnown") 238)), (some (.builtin "ValueError.__new__")), (some (.bool true))]⟩) ::
  (nat_lit 74, ⟨(.type "dict"), none, (.dict (List.toArray (⟨PySem.PyData.keyHash P (PySem.Str.ofString "__module__"), .str (PySem.Str.ofString "__module__") 262, (.str (PySem.Str.ofString "opencalls.errors") 194)⟩ :: ⟨PySem.PyData.keyHash P (PySem.Str.ofString "__firstlineno__"), .str (PySem.Str.ofString "__firstlineno__") 266, (.int (13) 265)⟩ :: ⟨PySem.PyData.keyHash P (PySem.Str.ofString "__static_attributes__"), .str (PySem.Str.ofString "__static_attributes__") 267, (.ref 73)⟩ :: ⟨PySem.PyData.keyHash P (PySem.Str.ofString "__doc__"), .str (PySem.Str.ofString "__doc__") 268, .none⟩ :: [])) 2), #[]⟩) ::
  (nat_lit 75, ⟨(.type "type"), none, (.cls { name := (PySem.Str.ofString "NoGroup"), bases := [(.ref 31)], mro := [(.ref 75), (.ref 31), (.type "ValueError"), (.type "Exception"), (.type "BaseException"), (.type "object")], ns := 74, qualname := (PySem.Str.ofString "NoGroup"), hasDict := true, slotNames := [], subclasses := [], abstract := false, collection := none, hasDel := false }), #[(some (.ref 66)), none, (some (.str (PySem.Str.ofString "NoGroup") 255)), (some (.str (PySem.Str.ofString "NoGroup") 263)), (some (.builtin "ValueError.__new__")), (some (.bool true))]⟩) ::
  (nat_lit 86, ⟨(.type "dict"), none, (.dict (List.toArray (⟨PySem.PyData.keyHash P (PySem.Str.ofString "__module__"), .str (PySem.Str.ofString "__module__") 278, (.str (PySem.Str.ofString "opencalls.errors") 194)⟩ :: ⟨PySem.PyData.keyHash P (PySem.Str.ofString "__firstlineno__"), .str (PySem.Str.ofString "__firstlineno__") 282, (.int (15) 281)⟩ :: ⟨PySem.PyData.keyHash P (PySem.Str.ofString "__static_attributes__"), .str (PySem.Str.ofString "__static_attributes__") 283, (.ref 85)⟩ :: ⟨PySem.PyData.keyHash P (PySem.Str.ofString "__doc__"), .str (PySem.Str.ofString "__doc__") 284, .none⟩ :: [])) 2), #[]⟩) ::
  (nat_lit 87, ⟨(.type "type"), none, (.cls { name := (PySem.Str.ofString "Full"), bases := [(.ref 31)], mro := [(.ref 87), (.ref 31), (.type "ValueError"), (.type "Exception"), (.type "BaseException"), (.type "object")], ns := 86, qualname := (PySem.Str.ofString "Full"), hasDict := true, slotNames := [], subclasses := [], abstract := false, collection := none, hasDel := false }), #[(some (.ref 78)), none, (some (.str (PySem.Str.ofString "Full") 271)), (some (.str (PySem.Str.ofString "Full") 279)), (some (.builtin "ValueError.__new__")), (some (.bool true))]⟩) ::
  (nat_lit 105, ⟨(.type "dict"), none, (.dict (List.toArray (⟨PySem.PyData.keyHash P (PySem.Str.ofString "__module__"), .str (PySem.Str.ofString "__module__") 294, (.str (PySem.Str.ofString "opencalls.errors") 194)⟩ :: ⟨PySem.PyData.keyHash P (PySem.Str.ofString "__firstlineno__"), .str (PySem.Str.ofString "__firstlineno__") 298, (.int (17) 297)⟩ :: ⟨PySem.PyData.keyHash P (PySem.Str.ofString "__init__"), .str (PySem.Str.ofString "__init__") 306, (.ref 103)⟩ :: ⟨PySem.PyData.keyHash P (PySem.Str.ofString "__static_attributes__"), .str (PySem.Str.ofString "__static_attributes__") 308, (.ref 104)⟩ :: ⟨PySem.PyData.keyHash P (PySem.Str.ofString "__doc__"), .str (PySem.Str.ofString "__doc__") 309, .none⟩ :: [])) 2), #[]⟩) ::
  (nat_lit 106, ⟨(.type "type"), none, (.cls { name := (PySem.Str.ofString "NoPlace"), bases := [(.ref 31)], mro := [(.ref 106), (.ref 31), (.type "ValueError"), (.type "Exception"), (.type "BaseException"), (.type "object")], ns := 105, qualname := (PySem.Str.ofString "NoPlace"), hasDict := true, slotNames := [], subclasses := [], abstract := false, collection := none, hasDel := false }), #[(some (.ref 90)), none, (some (.str (PySem.Str.ofString "NoPlace") 287)), (some (.str (PySem.Str.ofString "NoPlace") 295)), (some (.builtin "ValueError.__new__")), (some (.bool true))]⟩) ::
  (nat_lit 117, ⟨(.type "dict"), none, (.dict (List.toArray (⟨PySem.PyData.keyHash P (PySem.Str.ofString "__module__"), .str (PySem.Str.ofString "__module__") 319, (.str (PySem.Str.ofString "opencalls.errors") 194)⟩ :: ⟨PySem.PyData.keyHash P (PySem.Str.ofString "__firstlineno__"), .str (PySem.Str.ofString "__firstlineno__") 323, (.int (21) 322)⟩ :: ⟨PySem.PyData.keyHash P (PySem.Str.ofString "__static_attributes__"), .str (PySem.Str.ofString "__static_attributes__") 324, (.ref 116)⟩ :: ⟨PySem.PyData.keyHash P (PySem.Str.ofString "__doc__"), .str (PySem.Str.ofString "__doc__") 325, .none⟩ :: [])) 2), #[]⟩) ::
  (nat_lit 118, ⟨(.type "type"), none, (.cls { name := (PySem.Str.ofString "NoTurn"), bases := [(.ref 31)], mro := [(.ref 118), (.ref 31), (.type "ValueError"), (.type "Exception"), (.type "BaseException"), (.type "object")], ns := 117, qualname := (PySem.Str.ofString "NoTurn"), hasDict := true, slotNames := [], subclasses := [], abstract := false, collection := none, hasDel := false }), #[(some (.ref 109)), none, (some (.str (PySem.Str.ofString "NoTurn") 312)), (some (.str (PySem.Str.ofString "NoTurn") 320)), (some (.builtin "ValueError.__new__")), (some (.bool true))]⟩) ::
  (nat_lit 136, ⟨(.type "dict"), none, (.dict (List.toArray (⟨PySem.PyData.keyHash P (PySem.Str.ofString "__module__"), .str (PySem.Str.ofString "__module__") 335, (.str (PySem.Str.ofString "opencalls.errors") 194)⟩ :: ⟨PySem.PyData.keyHash P (PySem.Str.ofString "__firstlineno__"), .str (PySem.Str.ofString "__firstlineno__") 339, (.int (23) 338)⟩ :: ⟨PySem.PyData.keyHash P (PySem.Str.ofString "__init__"), .str (PySem.Str.ofString "__init__") 347, (.ref 134)⟩ :: ⟨PySem.PyData.keyHash P (PySem.Str.ofString "__static_attributes__"), .str (PySem.Str.ofString "__static_attributes__") 349, (.ref 135)⟩ :: ⟨PySem.PyData.keyHash P (PySem.Str.ofString "__doc__"), .str (PySem.Str.ofString "__doc__") 350, .none⟩ :: [])) 2), #[]⟩) ::
  (nat_lit 137, ⟨(.type "type"), none, (.cls { name := (PySem.Str.ofString "NoName"), bases := [(.ref 31)], mro := [(.ref 137), (.ref 31), (.type "ValueError"), (.type "Exception"), (.type "BaseException"), (.type "object")], ns := 136, qualname := (PySem.Str.ofString "NoName"), hasDict := true, slotNames := [], subclasses := [], abstract := false, collection := none, hasDel := false }), #[(some (.ref 121)), none, (some (.str (PySem.Str.ofString "NoName") 328)), (some (.str (PySem.Str.ofString "NoName") 336)), (some (.builtin "ValueError.__new__")), (some (.bool true))]⟩) ::
  (nat_lit 155, ⟨(.type "dict"), none, (.dict (List.toArray (⟨PySem.PyData.keyHash P (PySem.Str.ofString "__module__"), .str (PySem.Str.ofString "__module__") 360, (.str (PySem.Str.ofString "opencalls.errors") 194)⟩ :: ⟨PySem.PyData.keyHash P (PySem.Str.ofString "__firstlineno__"), .str (PySem.Str.ofString "__firstlineno__") 364, (.int (27) 363)⟩ :: ⟨PySem.PyData.keyHash P (PySem.Str.ofString "__init__"), .str (PySem.Str.ofString "__init__") 372, (.ref 153)⟩ :: ⟨PySem.PyData.keyHash P (PySem.Str.ofString "__static_attributes__"), .str (PySem.Str.ofString "__static_attributes__") 374, (.ref 154)⟩ :: ⟨PySem.PyData.keyHash P (PySem.Str.ofString "__doc__"), .str (PySem.Str.ofString "__doc__") 375, .none⟩ :: [])) 2), #[]⟩) ::
  (nat_lit 156, ⟨(.type "type"), none, (.cls { name := (PySem.Str.ofString "Taken"), bases := [(.ref 31)], mro := [(.ref 156), (.ref 31), (.type "ValueError"), (.type "Exception"), (.type "BaseException"), (.type "object")], ns := 155, qualname := (PySem.Str.ofString "Taken"), hasDict := true, slotNames := [], subclasses := [], abstract := false, collection := none, hasDel := false }), #[(some (.ref 140)), none, (some (.str (PySem.Str.ofString "Taken") 353)), (some (.str (PySem.Str.ofString "Taken") 361)), (some (.builtin "ValueError.__new__")), (some (.bool true))]⟩) ::
  (nat_lit 167, ⟨(.type "dict"), none, (.dict (List.toArray (⟨PySem.PyData.keyHash P (PySem.Str.ofString "__module__"), .str (PySem.Str.ofString "__module__") 385, (.str (PySem.Str.ofString "opencalls.errors") 194)⟩ :: ⟨PySem.PyData.keyHash P (PySem.Str.ofString "__firstlineno__"), .str (PySem.Str.ofString "__firstlineno__") 389, (.int (31) 388)⟩ :: ⟨PySem.PyData.keyHash P (PySem.Str.ofString "__static_attributes__"), .str (PySem.Str.ofString "__static_attributes__") 390, (.ref 166)⟩ :: ⟨PySem.PyData.keyHash P (PySem.Str.ofString "__doc__"), .str (PySem.Str.ofString "__doc__") 391, .none⟩ :: [])) 2), #[]⟩) ::
  (nat_lit 168, ⟨(.type "type"), none, (.cls { name := (PySem.Str.ofString "Few"), bases := [(.ref 31)], mro := [(.ref 168), (.ref 31), (.type "ValueError"), (.type "Exception"), (.type "BaseException"), (.type "object")], ns := 167, qualname := (PySem.Str.ofString "Few"), hasDict := true, slotNames := [], subclasses := [], abstract := false, collection := none, hasDel := false }), #[(some (.ref 159)), none, (some (.str (PySem.Str.ofString "Few") 378)), (some (.str (PySem.Str.ofString "Few") 386)), (some (.builtin "ValueError.__new__")), (some (.bool true))]⟩) ::
  (nat_lit 179, ⟨(.type "dict"), none, (.dict (List.toArray (⟨PySem.PyData.keyHash P (PySem.Str.ofString "__module__"), .str (PySem.Str.ofString "__module__") 401, (.str (PySem.Str.ofString "opencalls.errors") 194)⟩ :: ⟨PySem.PyData.keyHash P (PySem.Str.ofString "__firstlineno__"), .str (PySem.Str.ofString "__firstlineno__") 405, (.int (33) 404)⟩ :: ⟨PySem.PyData.keyHash P (PySem.Str.ofString "__static_attributes__"), .str (PySem.Str.ofString "__static_attributes__") 406, (.ref 178)⟩ :: ⟨PySem.PyData.keyHash P (PySem.Str.ofString "__doc__"), .str (PySem.Str.ofString "__doc__") 407, .none⟩ :: [])) 2), #[]⟩) ::
  (nat_lit 180, ⟨(.type "type"), none, (.cls { name := (PySem.Str.ofString "NothingBack"), bases := [(.ref 31)], mro := [(.ref 180), (.ref 31), (.type "ValueError"), (.type "Exception"), (.type "BaseException"), (.type "object")], ns := 179, qualname := (PySem.Str.ofString "NothingBack"), hasDict := true, slotNames := [], subclasses := [], abstract := false, collection := none, hasDel := false }), #[(some (.ref 171)), none, (some (.str (PySem.Str.ofString "NothingBack") 394)), (some (.str (PySem.Str.ofString "NothingBack") 402)), (some (.builtin "ValueError.__new__")), (some (.bool true))]⟩) ::
  (nat_lit 191, ⟨(.type "dict"), none, (.dict (List.toArray (⟨PySem.PyData.keyHash P (PySem.Str.ofString "__module__"), .str (PySem.Str.ofString "__module__") 417, (.str (PySem.Str.ofString "opencalls.errors") 194)⟩ :: ⟨PySem.PyData.keyHash P (PySem.Str.ofString "__firstlineno__"), .str (PySem.Str.ofString "__firstlineno__") 421, (.int (35) 420)⟩ :: ⟨PySem.PyData.keyHash P (PySem.Str.ofString "__static_attributes__"), .str (PySem.Str.ofString "__static_attributes__") 422, (.ref 190)⟩ :: ⟨PySem.PyData.keyHash P (PySem.Str.ofString "__doc__"), .str (PySem.Str.ofString "__doc__") 423, .none⟩ :: [])) 2), #[]⟩) ::
  (nat_lit 192, ⟨(.type "type"), none, (.cls { name := (PySem.Str.ofString "Long"), bases := [(.ref 31)], mro := [(.ref 192), (.ref 31), (.type "ValueError"), (.type "Exception"), (.type "BaseException"), (.type "object")], ns := 191, qualname := (PySem.Str.ofString "Long"), hasDict := true, slotNames := [], subclasses := [], abstract := false, collection := none, hasDel := false }), #[(some (.ref 183)), none, (some (.str (PySem.Str.ofString "Long") 410)), (some (.str (PySem.Str.ofString "Long") 418)), (some (.builtin "ValueError.__new__")), (some (.bool true))]⟩) ::
  (nat_lit 203, ⟨(.type "dict"), none, (.dict (List.toArray (⟨PySem.PyData.keyHash P (PySem.Str.ofString "__module__"), .str (PySem.Str.ofString "__module__") 433, (.str (PySem.Str.ofString "opencalls.errors") 194)⟩ :: ⟨PySem.PyData.keyHash P (PySem.Str.ofString "__firstlineno__"), .str (PySem.Str.ofString "__firstlineno__") 437, (.int (37) 436)⟩ :: ⟨PySem.PyData.keyHash P (PySem.Str.ofString "__static_attributes__"), .str (PySem.Str.ofString "__static_attributes__") 438, (.ref 202)⟩ :: ⟨PySem.PyData.keyHash P (PySem.Str.ofString "__doc__"), .str (PySem.Str.ofString "__doc__") 439, .none⟩ :: [])) 2), #[]⟩) ::
  (nat_lit 204, ⟨(.type "type"), none, (.cls { name := (PySem.Str.ofString "Busy"), bases := [(.ref 31)], mro := [(.ref 204), (.ref 31), (.type "ValueError"), (.type "Exception"), (.type "BaseException"), (.type "object")], ns := 203, qualname := (PySem.Str.ofString "Busy"), hasDict := true, slotNames := [], subclasses := [], abstract := false, collection := none, hasDel := false }), #[(some (.ref 195)), none, (some (.str (PySem.Str.ofString "Busy") 426)), (some (.str (PySem.Str.ofString "Busy") 434)), (some (.builtin "ValueError.__new__")), (some (.bool true))]⟩) ::
  (nat_lit 222, ⟨(.type "dict"), none, (.dict (List.toArray (⟨PySem.PyData.keyHash P (PySem.Str.ofString "__module__"), .str (PySem.Str.ofString "__module__") 449, (.str (PySem.Str.ofString "opencalls.errors") 194)⟩ :: ⟨PySem.PyData.keyHash P (PySem.Str.ofString "__firstlineno__"), .str (PySem.Str.ofString "__firstlineno__") 453, (.int (39) 452)⟩ :: ⟨PySem.PyData.keyHash P (PySem.Str.ofString "__init__"), .str (PySem.Str.ofString "__init__") 461, (.ref 220)⟩ :: ⟨PySem.PyData.keyHash P (PySem.Str.ofString "__static_attributes__"), .str (PySem.Str.ofString "__static_attributes__") 463, (.ref 221)⟩ :: ⟨PySem.PyData.keyHash P (PySem.Str.ofString "__weakref__"), .str (PySem.Str.ofString "__weakref__") 465, (.ref 224)⟩ :: ⟨PySem.PyData.keyHash P (PySem.Str.ofString "__doc__"), .str (PySem.Str.ofString "__doc__") 466, .none⟩ :: [])) 3), #[]⟩) ::
  (nat_lit 223, ⟨(.type "type"), none, (.cls { name := (PySem.Str.ofString "NoHand"), bases := [(.type "LookupError")], mro := [(.ref 223), (.type "LookupError"), (.type "Exception"), (.type "BaseException"), (.type "object")], ns := 222, qualname := (PySem.Str.ofString "NoHand"), hasDict := true, slotNames := [], subclasses := [], abstract := false, collection := none, hasDel := false }), #[(some (.ref 207)), none, (some (.str (PySem.Str.ofString "NoHand") 442)), (some (.str (PySem.Str.ofString "NoHand") 450)), (some (.builtin "LookupError.__new__")), (some (.bool true))]⟩) ::
  (nat_lit 224, ⟨(.type "getset_descriptor"), none, (.fields #[(.str (PySem.Str.ofString "__weakref__") 464), (.ref 223), (.builtin "ExceptionGroup.__weakref__"), .none]), #[]⟩) ::
  (nat_lit 242, ⟨(.type "dict"), none, (.dict (List.toArray (⟨PySem.PyData.keyHash P (PySem.Str.ofString "__module__"), .str (PySem.Str.ofString "__module__") 476, (.str (PySem.Str.ofString "opencalls.errors") 194)⟩ :: ⟨PySem.PyData.keyHash P (PySem.Str.ofString "__firstlineno__"), .str (PySem.Str.ofString "__firstlineno__") 480, (.int (43) 479)⟩ :: ⟨PySem.PyData.keyHash P (PySem.Str.ofString "__init__"), .str (PySem.Str.ofString "__init__") 488, (.ref 240)⟩ :: ⟨PySem.PyData.keyHash P (PySem.Str.ofString "__static_attributes__"), .str (PySem.Str.ofString "__static_attributes__") 490, (.ref 241)⟩ :: ⟨PySem.PyData.keyHash P (PySem.Str.ofString "__weakref__"), .str (PySem.Str.ofString "__weakref__") 492, (.ref 244)⟩ :: ⟨PySem.PyData.keyHash P (PySem.Str.ofString "__doc__"), .str (PySem.Str.ofString "__doc__") 493, .none⟩ :: [])) 3), #[]⟩) ::
  (nat_lit 243, ⟨(.type "type"), none, (.cls { name := (PySem.Str.ofString "NoMoment"), bases := [(.type "LookupError")], mro := [(.ref 243), (.type "LookupError"), (.type "Exception"), (.type "BaseException"), (.type "object")], ns := 242, qualname := (PySem.Str.ofString "NoMoment"), hasDict := true, slotNames := [], subclasses := [], abstract := false, collection := none, hasDel := false }), #[(some (.ref 227)), none, (some (.str (PySem.Str.ofString "NoMoment") 469)), (some (.str (PySem.Str.ofString "NoMoment") 477)), (some (.builtin "LookupError.__new__")), (some (.bool true))]⟩) ::
  (nat_lit 244, ⟨(.type "getset_descriptor"), none, (.fields #[(.str (PySem.Str.ofString "__weakref__") 491), (.ref 243), (.builtin "ExceptionGroup.__weakref__"), .none]), #[]⟩) ::
  (nat_lit 250, ⟨(.type "code"), none, (.fields #[(.str (PySem.Str.ofString "is_name") 500), (.str (PySem.Str.ofString "is_name") 501), (.str (PySem.Str.ofString "/claim/cut.py") 502), (.int (49) 0), (.int (1) 0), (.int (0) 0), (.int (0) 0), (.int (3) 0), (.ref 247), (.bool true), (.int (181) 0), (.ref 248), .none, .none, .none, (.ref 249), (.int (503) 0), (.int (49) 0), (.str (PySem.Str.ofString "/claim/cut.py") 504)]), #[]⟩) ::
  (nat_lit 251, ⟨(.type "function"), none, (.func (PySem.W.fnOf (PySem.Str.ofString "is_name") (PySem.Str.ofString "is_name") (defArgs (topR 19)) (defBody (topR 19)) (defScope (topR 19)) .none .none .none (.str (PySem.Str.ofString "opencalls.names") 496) none (.ref 250) .none)), #[]⟩) ::
  (nat_lit 255, ⟨(.type "code"), none, (.fields #[(.str (PySem.Str.ofString "is_rising") 506), (.str (PySem.Str.ofString "is_rising") 507), (.str (PySem.Str.ofString "/claim/cut.py") 508), (.int (51) 0), (.int (1) 0), (.int (0) 0), (.int (0) 0), (.int (3) 0), (.ref 252), (.bool true), (.int (181) 0), (.ref 253), .none, .none, .none, (.ref 254), (.int (509) 0), (.int (51) 0), (.str (PySem.Str.ofString "/claim/cut.py") 510)]), #[]⟩) ::
  (nat_lit 256, ⟨(.type "function"), none, (.func (PySem.W.fnOf (PySem.Str.ofString "is_rising") (PySem.Str.ofString "is_rising") (defArgs (topR 20)) (defBody (topR 20)) (defScope (topR 20)) .none .none .none (.str (PySem.Str.ofString "opencalls.names") 496) none (.ref 255) .none)), #[]⟩) ::
  (nat_lit 260, ⟨(.type "code"), none, (.fields #[(.str (PySem.Str.ofString "are_names") 512), (.str (PySem.Str.ofString "are_names") 513), (.str (PySem.Str.ofString "/claim/cut.py") 514), (.int (53) 0), (.int (1) 0), (.int (0) 0), (.int (0) 0), (.int (3) 0), (.ref 257), (.bool true), (.int (181) 0), (.ref 258), .none, .none, .none, (.ref 259), (.int (515) 0), (.int (53) 0), (.str (PySem.Str.ofString "/claim/cut.py") 516)]), #[]⟩) ::
  (nat_lit 261, ⟨(.type "function"), none, (.func (PySem.W.fnOf (PySem.Str.ofString "are_names") (PySem.Str.ofString "are_names") (defArgs (topR 21)) (defBody (topR 21)) (defScope (topR 21)) .none .none .none (.str (PySem.Str.ofString "opencalls.names") 496) none (.ref 260) .none)), #[]⟩) ::
  (nat_lit 267, ⟨(.type "code"), none, (.fields #[(.str (PySem.Str.ofString "is_number") 520), (.str (PySem.Str.ofString "is_number") 521), (.str (PySem.Str.ofString "/claim/cut.py") 522), (.int (56) 0), (.int (1) 0), (.int (0) 0), (.int (0) 0), (.int (3) 0), (.ref 262), (.bool true), (.int (181) 0), (.ref 263), .none, (.ref 264), (.ref 265), (.ref 266), (.int (524) 0), (.int (56) 0), (.str (PySem.Str.ofString "/claim/cut.py") 525)]), #[]⟩) ::
  (nat_lit 268, ⟨(.type "function"), none, (.func (PySem.W.fnOf (PySem.Str.ofString "is_number") (PySem.Str.ofString "is_number") (defArgs (topR 23)) (defBody (topR 23)) (defScope (topR 23)) .none .none .none (.str (PySem.Str.ofString "opencalls.rests") 518) none (.ref 267) .none)), #[]⟩) ::
  (nat_lit 274, ⟨(.type "code"), none, (.fields #[(.str (PySem.Str.ofString "is_rest") 527), (.str (PySem.Str.ofString "is_rest") 528), (.str (PySem.Str.ofString "/claim/cut.py") 529), (.int (58) 0), (.int (2) 0), (.int (0) 0), (.int (0) 0), (.int (3) 0), (.ref 269), (.bool true), (.int (181) 0), (.ref 270), .none, (.ref 271), (.ref 272), (.ref 273), (.int (532) 0), (.int (58) 0), (.str (PySem.Str.ofString "/claim/cut.py") 533)]), #[]⟩) ::
  (nat_lit 275, ⟨(.type "function"), none, (.func (PySem.W.fnOf (PySem.Str.ofString "is_rest") (PySem.Str.ofString "is_rest") (defArgs (topR 24)) (defBody (topR 24)) (defScope (topR 24)) .none .none .none (.str (PySem.Str.ofString "opencalls.rests") 518) none (.ref 274) .none)), #[]⟩) ::
  (nat_lit 281, ⟨(.type "code"), none, (.fields #[(.str (PySem.Str.ofString "contrary") 535), (.str (PySem.Str.ofString "contrary") 536), (.str (PySem.Str.ofString "/claim/cut.py") 537), (.int (60) 0), (.int (2) 0), (.int (0) 0), (.int (0) 0), (.int (3) 0), (.ref 276), (.bool true), (.int (181) 0), (.ref 277), .none, (.ref 278), (.ref 279), (.ref 280), (.int (541) 0), (.int (60) 0), (.str (PySem.Str.ofString "/claim/cut.py") 542)]), #[]⟩) ::
  (nat_lit 282, ⟨(.type "function"), none, (.func (PySem.W.fnOf (PySem.Str.ofString "contrary") (PySem.Str.ofString "contrary") (defArgs (topR 25)) (defBody (topR 25)) (defScope (topR 25)) .none .none .none (.str (PySem.Str.ofString "opencalls.rests") 518) none (.ref 281) .none)), #[]⟩) ::
  (nat_lit 286, ⟨(.type "code"), none, (.fields #[(.str (PySem.Str.ofString "is_row") 546), (.str (PySem.Str.ofString "is_row") 547), (.str (PySem.Str.ofString "/claim/cut.py") 548), (.int (66) 0), (.int (3) 0), (.int (0) 0), (.int (0) 0), (.int (3) 0), (.ref 283), (.bool true), (.int (181) 0), (.ref 284), .none, .none, .none, (.ref 285), (.int (549) 0), (.int (66) 0), (.str (PySem.Str.ofString "/claim/cut.py") 550)]), #[]⟩) ::
  (nat_lit 287, ⟨(.type "function"), none, (.func (PySem.W.fnOf (PySem.Str.ofString "is_row") (PySem.Str.ofString "is_row") (defArgs (topR 27)) (defBody (topR 27)) (defScope (topR 27)) .none .none .none (.str (PySem.Str.ofString "opencalls.rows") 544) none (.ref 286) .none)), #[]⟩) ::
  (nat_lit 291, ⟨(.type "code"), none, (.fields #[(.str (PySem.Str.ofString "added") 552), (.str (PySem.Str.ofString "added") 553), (.str (PySem.Str.ofString "/claim/cut.py") 554), (.int (68) 0), (.int (3) 0), (.int (0) 0), (.int (0) 0), (.int (3) 0), (.ref 288), (.bool true), (.int (181) 0), (.ref 289), .none, .none, .none, (.ref 290), (.int (555) 0), (.int (68) 0), (.str (PySem.Str.ofString "/claim/cut.py") 556)]), #[]⟩) ::
  (nat_lit 292, ⟨(.type "function"), none, (.func (PySem.W.fnOf (PySem.Str.ofString "added") (PySem.Str.ofString "added") (defArgs (topR 28)) (defBody (topR 28)) (defScope (topR 28)) .none .none .none (.str (PySem.Str.ofString "opencalls.rows") 544) none (.ref 291) .none)), #[]⟩) ::
  (nat_lit 296, ⟨(.type "code"), none, (.fields #[(.str (PySem.Str.ofString "times") 558), (.str (PySem.Str.ofString "times") 559), (.str (PySem.Str.ofString "/claim/cut.py") 560), (.int (70) 0), (.int (3) 0), (.int (0) 0), (.int (0) 0), (.int (3) 0), (.ref 293), (.bool true), (.int (181) 0), (.ref 294), .none, .none, .none, (.ref 295), (.int (561) 0), (.int (70) 0), (.str (PySem.Str.ofString "/claim/cut.py") 562)]), #[]⟩) ::
  (nat_lit 297, ⟨(.type "function"), none, (.func (PySem.W.fnOf (PySem.Str.ofString "times") (PySem.Str.ofString "times") (defArgs (topR 29)) (defBody (topR 29)) (defScope (topR 29)) .none .none .none (.str (PySem.Str.ofString "opencalls.rows") 544) none (.ref 296) .none)), #[]⟩) ::
  (nat_lit 303, ⟨(.type "code"), none, (.fields #[(.str (PySem.Str.ofString "check_hand") 566), (.str (PySem.Str.ofString "check_hand") 567), (.str (PySem.Str.ofString "/claim/cut.py") 568), (.int (73) 0), (.int (2) 0), (.int (0) 0), (.int (0) 0), (.int (3) 0), (.ref 298), (.bool true), (.int (181) 0), (.ref 299), .none, (.ref 300), (.ref 301), (.ref 302), (.int (571) 0), (.int (73) 0), (.str (PySem.Str.ofString "/claim/cut.py") 572)]), #[]⟩) ::
  (nat_lit 304, ⟨(.type "function"), none, (.func (PySem.W.fnOf (PySem.Str.ofString "check_hand") (PySem.Str.ofString "check_hand") (defArgs (topR 31)) (defBody (topR 31)) (defScope (topR 31)) .none .none .none (.str (PySem.Str.ofString "opencalls.checks") 564) none (.ref 303) .none)), #[]⟩) ::
  (nat_lit 310, ⟨(.type "code"), none, (.fields #[(.str (PySem.Str.ofString "check_hands") 574), (.str (PySem.Str.ofString "check_hands") 575), (.str (PySem.Str.ofString "/claim/cut.py") 576), (.int (76) 0), (.int (3) 0), (.int (0) 0), (.int (0) 0), (.int (3) 0), (.ref 305), (.bool true), (.int (181) 0), (.ref 306), .none, (.ref 307), (.ref 308), (.ref 309), (.int (581) 0), (.int (76) 0), (.str (PySem.Str.ofString "/claim/cut.py") 582)]), #[]⟩) ::
  (nat_lit 311, ⟨(.type "function"), none, (.func (PySem.W.fnOf (PySem.Str.ofString "check_hands") (PySem.Str.ofString "check_hands") (defArgs (topR 32)) (defBody (topR 32)) (defScope (topR 32)) .none .none .none (.str (PySem.Str.ofString "opencalls.checks") 564) none (.ref 310) .none)), #[]⟩) ::
  (nat_lit 317, ⟨(.type "code"), none, (.fields #[(.str (PySem.Str.ofString "check_row") 584), (.str (PySem.Str.ofString "check_row") 585), (.str (PySem.Str.ofString "/claim/cut.py") 586), (.int (81) 0), (.int (3) 0), (.int (0) 0), (.int (0) 0), (.int (3) 0), (.ref 312), (.bool true), (.int (181) 0), (.ref 313), .none, (.ref 314), (.ref 315), (.ref 316), (.int (590) 0), (.int (81) 0), (.str (PySem.Str.ofString "/claim/cut.py") 591)]), #[]⟩) ::
  (nat_lit 318, ⟨(.type "function"), none, (.func (PySem.W.fnOf (PySem.Str.ofString "check_row") (PySem.Str.ofString "check_row") (defArgs (topR 33)) (defBody (topR 33)) (defScope (topR 33)) .none .none .none (.str (PySem.Str.ofString "opencalls.checks") 564) none (.ref 317) .none)), #[]⟩) ::
  (nat_lit 329, ⟨(.type "code"), none, (.fields #[(.str (PySem.Str.ofString "is_noughts") 609), (.str (PySem.Str.ofString "is_noughts") 610), (.str (PySem.Str.ofString "/claim/cut.py") 611), (.int (91) 0), (.int (1) 0), (.int (0) 0), (.int (0) 0), (.int (3) 0), (.ref 326), (.bool true), (.int (181) 0), (.ref 327), .none, .none, .none, (.ref 328), (.int (612) 0), (.int (91) 0), (.str (PySem.Str.ofString "/claim/cut.py") 613)]), #[]⟩) ::
  (nat_lit 330, ⟨(.type "function"), none, (.func (PySem.W.fnOf (PySem.Str.ofString "is_noughts") (PySem.Str.ofString "is_noughts") (defArgs (topR 37)) (defBody (topR 37)) (defScope (topR 37)) .none .none .none (.str (PySem.Str.ofString "opencalls.rooms") 607) none (.ref 329) .none)), #[]⟩) ::
  (nat_lit 336, ⟨(.type "code"), none, (.fields #[(.str (PySem.Str.ofString "first_place") 615), (.str (PySem.Str.ofString "first_place") 616), (.str (PySem.Str.ofString "/claim/cut.py") 617), (.int (93) 0), (.int (1) 0), (.int (0) 0), (.int (0) 0), (.int (3) 0), (.ref 331), (.bool true), (.int (181) 0), (.ref 332), .none, (.ref 333), (.ref 334), (.ref 335), (.int (621) 0), (.int (93) 0), (.str (PySem.Str.ofString "/claim/cut.py") 622)]), #[]⟩) ::
  (nat_lit 337, ⟨(.type "function"), none, (.func (PySem.W.fnOf (PySem.Str.ofString "first_place") (PySem.Str.ofString "first_place") (defArgs (topR 38)) (defBody (topR 38)) (defScope (topR 38)) .none .none .none (.str (PySem.Str.ofString "opencalls.rooms") 607) none (.ref 336) .none)), #[]⟩) ::
  (nat_lit 343, ⟨(.type "code"), none, (.fields #[(.str (PySem.Str.ofString "cleared") 624), (.str (PySem.Str.ofString "cleared") 625), (.str (PySem.Str.ofString "/claim/cut.py") 626), (.int (98) 0), (.int (3) 0), (.int (0) 0), (.int (0) 0), (.int (3) 0), (.ref 338), (.bool true), (.int (181) 0), (.ref 339), .none, (.ref 340), (.ref 341), (.ref 342), (.int (631) 0), (.int (98) 0), (.str (PySem.Str.ofString "/claim/cut.py") 632)]), #[]⟩) ::
  (nat_lit 344, ⟨(.type "function"), none, (.func (PySem.W.fnOf (PySem.Str.ofString "cleared") (PySem.Str.ofString "cleared") (defArgs (topR 39)) (defBody (topR 39)) (defScope (topR 39)) .none .none .none (.str (PySem.Str.ofString "opencalls.rooms") 607) none (.ref 343) .none)), #[]⟩) ::
  (nat_lit 350, ⟨(.type "code"), none, (.fields #[(.str (PySem.Str.ofString "left_of") 634), (.str (PySem.Str.ofString "left_of") 635), (.str (PySem.Str.ofString "/claim/cut.py") 636), (.int (103) 0), (.int (3) 0), (.int (0) 0), (.int (0) 0), (.int (3) 0), (.ref 345), (.bool true), (.int (181) 0), (.ref 346), .none, (.ref 347), (.ref 348), (.ref 349), (.int (641) 0), (.int (103) 0), (.str (PySem.Str.ofString "/claim/cut.py") 642)]), #[]⟩) ::
  (nat_lit 351, ⟨(.type "function"), none, (.func (PySem.W.fnOf (PySem.Str.ofString "left_of") (PySem.Str.ofString "left_of") (defArgs (topR 40)) (defBody (topR 40)) (defScope (topR 40)) .none .none .none (.str (PySem.Str.ofString "opencalls.rooms") 607) none (.ref 350) .none)), #[]⟩) ::
  (nat_lit 355, ⟨(.type "code"), none, (.fields #[(.str (PySem.Str.ofString "widened") 644), (.str (PySem.Str.ofString "widened") 645), (.str (PySem.Str.ofString "/claim/cut.py") 646), (.int (107) 0), (.int (3) 0), (.int (0) 0), (.int (0) 0), (.int (3) 0), (.ref 352), (.bool true), (.int (181) 0), (.ref 353), .none, .none, .none, (.ref 354), (.int (647) 0), (.int (107) 0), (.str (PySem.Str.ofString "/claim/cut.py") 648)]), #[]⟩) ::
  (nat_lit 356, ⟨(.type "function"), none, (.func (PySem.W.fnOf (PySem.Str.ofString "widened") (PySem.Str.ofString "widened") (defArgs (topR 41)) (defBody (topR 41)) (defScope (topR 41)) .none .none .none (.str (PySem.Str.ofString "opencalls.rooms") 607) none (.ref 355) .none)), #[]⟩) ::
  (nat_lit 362, ⟨(.type "code"), none, (.fields #[(.str (PySem.Str.ofString "room_of") 650), (.str (PySem.Str.ofString "room_of") 651), (.str (PySem.Str.ofString "/claim/cut.py") 652), (.int (114) 0), (.int (3) 0), (.int (0) 0), (.int (0) 0), (.int (3) 0), (.ref 357), (.bool true), (.int (181) 0), (.ref 358), .none, (.ref 359), (.ref 360), (.ref 361), (.int (658) 0), (.int (114) 0), (.str (PySem.Str.ofString "/claim/cut.py") 659)]), #[]⟩) ::
  (nat_lit 363, ⟨(.type "function"), none, (.func (PySem.W.fnOf (PySem.Str.ofString "room_of") (PySem.Str.ofString "room_of") (defArgs (topR 42)) (defBody (topR 42)) (defScope (topR 42)) .none .none .none (.str (PySem.Str.ofString "opencalls.rooms") 607) none (.ref 362) .none)), #[]⟩) ::
  (nat_lit 369, ⟨(.type "code"), none, (.fields #[(.str (PySem.Str.ofString "within") 661), (.str (PySem.Str.ofString "within") 662), (.str (PySem.Str.ofString "/claim/cut.py") 663), (.int (121) 0), (.int (3) 0), (.int (0) 0), (.int (0) 0), (.int (3) 0), (.ref 364), (.bool true), (.int (181) 0), (.ref 365), .none, (.ref 366), (.ref 367), (.ref 368), (.int (667) 0), (.int (121) 0), (.str (PySem.Str.ofString "/claim/cut.py") 668)]), #[]⟩) ::
  (nat_lit 370, ⟨(.type "function"), none, (.func (PySem.W.fnOf (PySem.Str.ofString "within") (PySem.Str.ofString "within") (defArgs (topR 43)) (defBody (topR 43)) (defScope (topR 43)) .none .none .none (.str (PySem.Str.ofString "opencalls.rooms") 607) none (.ref 369) .none)), #[]⟩) ::
  (nat_lit 376, ⟨(.type "code"), none, (.fields #[(.str (PySem.Str.ofString "joined") 670), (.str (PySem.Str.ofString "joined") 671), (.str (PySem.Str.ofString "/claim/cut.py") 672), (.int (123) 0), (.int (4) 0), (.int (0) 0), (.int (0) 0), (.int (3) 0), (.ref 371), (.bool true), (.int (181) 0), (.ref 372), .none, (.ref 373), (.ref 374), (.ref 375), (.int (677) 0), (.int (123) 0), (.str (PySem.Str.ofString "/claim/cut.py") 678)]), #[]⟩) ::
  (nat_lit 377, ⟨(.type "function"), none, (.func (PySem.W.fnOf (PySem.Str.ofString "joined") (PySem.Str.ofString "joined") (defArgs (topR 44)) (defBody (topR 44)) (defScope (topR 44)) .none .none .none (.str (PySem.Str.ofString "opencalls.rooms") 607) none (.ref 376) .none)), #[]⟩) ::
  (nat_lit 383, ⟨(.type "code"), none, (.fields #[(.str (PySem.Str.ofString "shared") 680), (.str (PySem.Str.ofString "shared") 681), (.str (PySem.Str.ofString "/claim/cut.py") 682), (.int (125) 0), (.int (4) 0), (.int (0) 0), (.int (0) 0), (.int (3) 0), (.ref 378), (.bool true), (.int (181) 0), (.ref 379), .none, (.ref 380), (.ref 381), (.ref 382), (.int (687) 0), (.int (125) 0), (.str (PySem.Str.ofString "/claim/cut.py") 688)]), #[]⟩) ::
  (nat_lit 384, ⟨(.type "function"), none, (.func (PySem.W.fnOf (PySem.Str.ofString "shared") (PySem.Str.ofString "shared") (defArgs (topR 45)) (defBody (topR 45)) (defScope (topR 45)) .none .none .none (.str (PySem.Str.ofString "opencalls.rooms") 607) none (.ref 383) .none)), #[]⟩) ::
  (nat_lit 388, ⟨(.type "code"), none, (.fields #[(.str (PySem.Str.ofString "across") 690), (.str (PySem.Str.ofString "across") 691), (.str (PySem.Str.ofString "/claim/cut.py") 692), (.int (127) 0), (.int (3) 0), (.int (0) 0), (.int (0) 0), (.int (3) 0), (.ref 385), (.bool true), (.int (181) 0), (.ref 386), .none, .none, .none, (.ref 387), (.int (693) 0), (.int (127) 0), (.str (PySem.Str.ofString "/claim/cut.py") 694)]), #[]⟩) ::
  (nat_lit 389, ⟨(.type "function"), none, (.func (PySem.W.fnOf (PySem.Str.ofString "across") (PySem.Str.ofString "across") (defArgs (topR 46)) (defBody (topR 46)) (defScope (topR 46)) .none .none .none (.str (PySem.Str.ofString "opencalls.rooms") 607) none (.ref 388) .none)), #[]⟩) ::
  (nat_lit 395, ⟨(.type "code"), none, (.fields #[(.str (PySem.Str.ofString "across_at") 696), (.str (PySem.Str.ofString "across_at") 697), (.str (PySem.Str.ofString "/claim/cut.py") 698), (.int (130) 0), (.int (4) 0), (.int (0) 0), (.int (0) 0), (.int (3) 0), (.ref 390), (.bool true), (.int (181) 0), (.ref 391), .none, (.ref 392), (.ref 393), (.ref 394), (.int (705) 0), (.int (130) 0), (.str (PySem.Str.ofString "/claim/cut.py") 706)]), #[]⟩) ::
  (nat_lit 396, ⟨(.type "function"), none, (.func (PySem.W.fnOf (PySem.Str.ofString "across_at") (PySem.Str.ofString "across_at") (defArgs (topR 47)) (defBody (topR 47)) (defScope (topR 47)) .none .none .none (.str (PySem.Str.ofString "opencalls.rooms") 607) none (.ref 395) .none)), #[]⟩) ::
  (nat_lit 402, ⟨(.type "code"), none, (.fields #[(.str (PySem.Str.ofString "needed") 710), (.str (PySem.Str.ofString "needed") 711), (.str (PySem.Str.ofString "/claim/cut.py") 712), (.int (137) 0), (.int (3) 0), (.int (0) 0), (.int (0) 0), (.int (3) 0), (.ref 397), (.bool true), (.int (181) 0), (.ref 398), .none, (.ref 399), (.ref 400), (.ref 401), (.int (720) 0), (.int (137) 0), (.str (PySem.Str.ofString "/claim/cut.py") 721)]), #[]⟩) ::
  (nat_lit 403, ⟨(.type "function"), none, (.func (PySem.W.fnOf (PySem.Str.ofString "needed") (PySem.Str.ofString "needed") (defArgs (topR 49)) (defBody (topR 49)) (defScope (topR 49)) .none .none .none (.str (PySem.Str.ofString "opencalls.papers") 708) none (.ref 402) .none)), #[]⟩) ::
  (nat_lit 416, ⟨(.type "code"), none, (.fields #[(.str (PySem.Str.ofString "__init__") 737), (.str (PySem.Str.ofString "Moment.__init__") 738), (.str (PySem.Str.ofString "/claim/cut.py") 739), (.int (148) 0), (.int (5) 0), (.int (0) 0), (.int (0) 0), (.int (3) 0), (.ref 411), (.bool true), (.int (181) 0), (.ref 412), .none, (.ref 413), (.ref 414), (.ref 415), (.int (745) 0), (.int (148) 0), (.str (PySem.Str.ofString "/claim/cut.py") 746)]), #[]⟩) ::
  (nat_lit 417, ⟨(.type "function"), none, (.func (PySem.W.fnOf (PySem.Str.ofString "__init__") (PySem.Str.ofString "Moment.__init__") (defArgs (inClass (topR 51) 0)) (defBody (inClass (topR 51) 0)) (defScope (inClass (topR 51) 0)) .none .none .none (.str (PySem.Str.ofString "opencalls.moments") 723) none (.ref 416) .none)), #[]⟩) ::
  (nat_lit 419, ⟨(.type "dict"), none, (.dict (List.toArray (⟨PySem.PyData.keyHash P (PySem.Str.ofString "__module__"), .str (PySem.Str.ofString "__module__") 732, (.str (PySem.Str.ofString "opencalls.moments") 723)⟩ :: ⟨PySem.PyData.keyHash P (PySem.Str.ofString "__firstlineno__"), .str (PySem.Str.ofString "__firstlineno__") 736, (.int (146) 735)⟩ :: ⟨PySem.PyData.keyHash P (PySem.Str.ofString "__init__"), .str (PySem.Str.ofString "__init__") 747, (.ref 417)⟩ :: ⟨PySem.PyData.keyHash P (PySem.Str.ofString "__static_attributes__"), .str (PySem.Str.ofString "__static_attributes__") 752, (.ref 418)⟩ :: ⟨PySem.PyData.keyHash P (PySem.Str.ofString "__dict__"), .str (PySem.Str.ofString "__dict__") 754, (.ref 421)⟩ :: ⟨PySem.PyData.keyHash P (PySem.Str.ofString "__weakref__"), .str (PySem.Str.ofString "__weakref__") 756, (.ref 422)⟩ :: ⟨PySem.PyData.keyHash P (PySem.Str.ofString "__doc__"), .str (PySem.Str.ofString "__doc__") 757, .none⟩ :: [])) 4), #[]⟩) ::
  (nat_lit 420, ⟨(.type "type"), none, (.cls { name := (PySem.Str.ofString "Moment"), bases := [(.type "object")], mro := [(.ref 420), (.type "object")], ns := 419, qualname := (PySem.Str.ofString "Moment"), hasDict := true, slotNames := [], subclasses := [], abstract := false, collection := none, hasDel := false }), #[none, none, (some (.str (PySem.Str.ofString "Moment") 725)), (some (.str (PySem.Str.ofString "Moment") 733)), (some (.builtin "object.__new__")), (some (.bool true))]⟩) ::
  (nat_lit 421, ⟨(.type "getset_descriptor"), none, (.fields #[(.str (PySem.Str.ofString "__dict__") 753), (.ref 420), (.builtin "function.__dict__"), (.builtin "function.__dict__#set")]), #[]⟩) ::
  (nat_lit 422, ⟨(.type "getset_descriptor"), none, (.fields #[(.str (PySem.Str.ofString "__weakref__") 755), (.ref 420), (.builtin "ExceptionGroup.__weakref__"), .none]), #[]⟩) ::
  (nat_lit 428, ⟨(.type "code"), none, (.fields #[(.str (PySem.Str.ofString "names_at") 760), (.str (PySem.Str.ofString "names_at") 761), (.str (PySem.Str.ofString "/claim/cut.py") 762), (.int (153) 0), (.int (1) 0), (.int (0) 0), (.int (0) 0), (.int (3) 0), (.ref 425), (.bool true), (.int (181) 0), (.ref 426), .none, .none, .none, (.ref 427), (.int (763) 0), (.int (153) 0), (.str (PySem.Str.ofString "/claim/cut.py") 764)]), #[]⟩) ::
  (nat_lit 429, ⟨(.type "function"), none, (.func (PySem.W.fnOf (PySem.Str.ofString "names_at") (PySem.Str.ofString "names_at") (defArgs (topR 52)) (defBody (topR 52)) (defScope (topR 52)) .none .none .none (.str (PySem.Str.ofString "opencalls.moments") 723) none (.ref 428) .none)), #[]⟩) ::
  (nat_lit 435, ⟨(.type "code"), none, (.fields #[(.str (PySem.Str.ofString "heard_at") 766), (.str (PySem.Str.ofString "heard_at") 767), (.str (PySem.Str.ofString "/claim/cut.py") 768), (.int (155) 0), (.int (2) 0), (.int (0) 0), (.int (0) 0), (.int (3) 0), (.ref 430), (.bool true), (.int (181) 0), (.ref 431), .none, (.ref 432), (.ref 433), (.ref 434), (.int (774) 0), (.int (155) 0), (.str (PySem.Str.ofString "/claim/cut.py") 775)]), #[]⟩) ::
  (nat_lit 436, ⟨(.type "function"), none, (.func (PySem.W.fnOf (PySem.Str.ofString "heard_at") (PySem.Str.ofString "heard_at") (defArgs (topR 53)) (defBody (topR 53)) (defScope (topR 53)) .none .none .none (.str (PySem.Str.ofString "opencalls.moments") 723) none (.ref 435) .none)), #[]⟩) ::
  (nat_lit 442, ⟨(.type "code"), none, (.fields #[(.str (PySem.Str.ofString "known_at") 777), (.str (PySem.Str.ofString "known_at") 778), (.str (PySem.Str.ofString "/claim/cut.py") 779), (.int (163) 0), (.int (2) 0), (.int (0) 0), (.int (0) 0), (.int (3) 0), (.ref 437), (.bool true), (.int (181) 0), (.ref 438), .none, (.ref 439), (.ref 440), (.ref 441), (.int (782) 0), (.int (163) 0), (.str (PySem.Str.ofString "/claim/cut.py") 783)]), #[]⟩) ::
  (nat_lit 443, ⟨(.type "function"), none, (.func (PySem.W.fnOf (PySem.Str.ofString "known_at") (PySem.Str.ofString "known_at") (defArgs (topR 54)) (defBody (topR 54)) (defScope (topR 54)) .none .none .none (.str (PySem.Str.ofString "opencalls.moments") 723) none (.ref 442) .none)), #[]⟩) ::
  (nat_lit 449, ⟨(.type "code"), none, (.fields #[(.str (PySem.Str.ofString "common_at") 785), (.str (PySem.Str.ofString "common_at") 786), (.str (PySem.Str.ofString "/claim/cut.py") 787), (.int (165) 0), (.int (2) 0), (.int (0) 0), (.int (0) 0), (.int (3) 0), (.ref 444), (.bool true), (.int (181) 0), (.ref 445), .none, (.ref 446), (.ref 447), (.ref 448), (.int (792) 0), (.int (165) 0), (.str (PySem.Str.ofString "/claim/cut.py") 793)]), #[]⟩) ::
  (nat_lit 450, ⟨(.type "function"), none, (.func (PySem.W.fnOf (PySem.Str.ofString "common_at") (PySem.Str.ofString "common_at") (defArgs (topR 55)) (defBody (topR 55)) (defScope (topR 55)) .none .none .none (.str (PySem.Str.ofString "opencalls.moments") 723) none (.ref 449) .none)), #[]⟩) ::
  (nat_lit 454, ⟨(.type "code"), none, (.fields #[(.str (PySem.Str.ofString "stand_at") 795), (.str (PySem.Str.ofString "stand_at") 796), (.str (PySem.Str.ofString "/claim/cut.py") 797), (.int (170) 0), (.int (1) 0), (.int (0) 0), (.int (0) 0), (.int (3) 0), (.ref 451), (.bool true), (.int (181) 0), (.ref 452), .none, .none, .none, (.ref 453), (.int (798) 0), (.int (170) 0), (.str (PySem.Str.ofString "/claim/cut.py") 799)]), #[]⟩) ::
  (nat_lit 455, ⟨(.type "function"), none, (.func (PySem.W.fnOf (PySem.Str.ofString "stand_at") (PySem.Str.ofString "stand_at") (defArgs (topR 56)) (defBody (topR 56)) (defScope (topR 56)) .none .none .none (.str (PySem.Str.ofString "opencalls.moments") 723) none (.ref 454) .none)), #[]⟩) ::
  (nat_lit 464, ⟨(.type "code"), none, (.fields #[(.str (PySem.Str.ofString "after_call") 809), (.str (PySem.Str.ofString "after_call") 810), (.str (PySem.Str.ofString "/claim/cut.py") 811), (.int (176) 0), (.int (3) 0), (.int (0) 0), (.int (0) 0), (.int (3) 0), (.ref 461), (.bool true), (.int (181) 0), (.ref 462), .none, .none, .none, (.ref 463), (.int (812) 0), (.int (176) 0), (.str (PySem.Str.ofString "/claim/cut.py") 813)]), #[]⟩) ::
  (nat_lit 465, ⟨(.type "function"), none, (.func (PySem.W.fnOf (PySem.Str.ofString "after_call") (PySem.Str.ofString "after_call") (defArgs (topR 59)) (defBody (topR 59)) (defScope (topR 59)) .none .none .none (.str (PySem.Str.ofString "opencalls.deeds") 801) none (.ref 464) .none)), #[]⟩) ::
  (nat_lit 469, ⟨(.type "code"), none, (.fields #[(.str (PySem.Str.ofString "after_whisper") 815), (.str (PySem.Str.ofString "after_whisper") 816), (.str (PySem.Str.ofString "/claim/cut.py") 817), (.int (183) 0), (.int (3) 0), (.int (0) 0), (.int (0) 0), (.int (3) 0), (.ref 466), (.bool true), (.int (181) 0), (.ref 467), .none, .none, .none, (.ref 468), (.int (818) 0), (.int (183) 0), (.str (PySem.Str.ofString "/claim/cut.py") 819)]), #[]⟩) ::
  (nat_lit 470, ⟨(.type "function"), none, (.func (PySem.W.fnOf (PySem.Str.ofString "after_whisper") (PySem.Str.ofString "after_whisper") (defArgs (topR 60)) (defBody (topR 60)) (defScope (topR 60)) .none .none .none (.str (PySem.Str.ofString "opencalls.deeds") 801) none (.ref 469) .none)), #[]⟩) ::
  (nat_lit 474, ⟨(.type "code"), none, (.fields #[(.str (PySem.Str.ofString "after_meet") 821), (.str (PySem.Str.ofString "after_meet") 822), (.str (PySem.Str.ofString "/claim/cut.py") 823), (.int (188) 0), (.int (2) 0), (.int (0) 0), (.int (0) 0), (.int (3) 0), (.ref 471), (.bool true), (.int (181) 0), (.ref 472), .none, .none, .none, (.ref 473), (.int (824) 0), (.int (188) 0), (.str (PySem.Str.ofString "/claim/cut.py") 825)]), #[]⟩) ::
  (nat_lit 475, ⟨(.type "function"), none, (.func (PySem.W.fnOf (PySem.Str.ofString "after_meet") (PySem.Str.ofString "after_meet") (defArgs (topR 61)) (defBody (topR 61)) (defScope (topR 61)) .none .none .none (.str (PySem.Str.ofString "opencalls.deeds") 801) none (.ref 474) .none)), #[]⟩) ::
  (nat_lit 479, ⟨(.type "code"), none, (.fields #[(.str (PySem.Str.ofString "news") 827), (.str (PySem.Str.ofString "news") 828), (.str (PySem.Str.ofString "/claim/cut.py") 829), (.int (193) 0), (.int (3) 0), (.int (0) 0), (.int (0) 0), (.int (3) 0), (.ref 476), (.bool true), (.int (181) 0), (.ref 477), .none, .none, .none, (.ref 478), (.int (830) 0), (.int (193) 0), (.str (PySem.Str.ofString "/claim/cut.py") 831)]), #[]⟩) ::
  (nat_lit 480, ⟨(.type "function"), none, (.func (PySem.W.fnOf (PySem.Str.ofString "news") (PySem.Str.ofString "news") (defArgs (topR 62)) (defBody (topR 62)) (defScope (topR 62)) .none .none .none (.str (PySem.Str.ofString "opencalls.deeds") 801) none (.ref 479) .none)), #[]⟩) ::
  (nat_lit 513, ⟨(.type "dict"), none, (.dict (List.toArray (⟨PySem.PyData.keyHash P (PySem.Str.ofString "call"), .str (PySem.Str.ofString "call") 873, (.ref 465)⟩ :: ⟨PySem.PyData.keyHash P (PySem.Str.ofString "whisper"), .str (PySem.Str.ofString "whisper") 874, (.ref 470)⟩ :: ⟨PySem.PyData.keyHash P (PySem.Str.ofString "meet"), .str (PySem.Str.ofString "meet") 875, (.ref 475)⟩ :: ⟨PySem.PyData.keyHash P (PySem.Str.ofString "hide"), .str (PySem.Str.ofString "hide") 876, (.ref 485)⟩ :: ⟨PySem.PyData.keyHash P (PySem.Str.ofString "change"), .str (PySem.Str.ofString "change") 877, (.ref 495)⟩ :: ⟨PySem.PyData.keyHash P (PySem.Str.ofString "come"), .str (PySem.Str.ofString "come") 878, (.ref 507)⟩ :: ⟨PySem.PyData.keyHash P (PySem.Str.ofString "go"), .str (PySem.Str.ofString "go") 879, (.ref 512)⟩ :: [])) 7), #[]⟩) ::
  (nat_lit 519, ⟨(.type "code"), none, (.fields #[(.str (PySem.Str.ofString "after") 888), (.str (PySem.Str.ofString "after") 889), (.str (PySem.Str.ofString "/claim/cut.py") 890), (.int (231) 0), (.int (2) 0), (.int (0) 0), (.int (0) 0), (.int (3) 0), (.ref 514), (.bool true), (.int (181) 0), (.ref 515), .none, (.ref 516), (.ref 517), (.ref 518), (.int (895) 0), (.int (231) 0), (.str (PySem.Str.ofString "/claim/cut.py") 896)]), #[]⟩) ::
  (nat_lit 520, ⟨(.type "function"), none, (.func (PySem.W.fnOf (PySem.Str.ofString "after") (PySem.Str.ofString "after") (defArgs (topR 70)) (defBody (topR 70)) (defScope (topR 70)) .none .none .none (.str (PySem.Str.ofString "opencalls.deeds") 801) none (.ref 519) .none)), #[]⟩) ::
  (nat_lit 533, ⟨(.type "code"), none, (.fields #[(.str (PySem.Str.ofString "__init__") 914), (.str (PySem.Str.ofString "Book.__init__") 915), (.str (PySem.Str.ofString "/claim/cut.py") 916), (.int (239) 0), (.int (4) 0), (.int (0) 0), (.int (0) 0), (.int (3) 0), (.ref 528), (.bool true), (.int (181) 0), (.ref 529), .none, (.ref 530), (.ref 531), (.ref 532), (.int (921) 0), (.int (239) 0), (.str (PySem.Str.ofString "/claim/cut.py") 922)]), #[]⟩) ::
  (nat_lit 534, ⟨(.type "function"), none, (.func (PySem.W.fnOf (PySem.Str.ofString "__init__") (PySem.Str.ofString "Book.__init__") (defArgs (inClass (topR 73) 0)) (defBody (inClass (topR 73) 0)) (defScope (inClass (topR 73) 0)) .none .none .none (.str (PySem.Str.ofString "opencalls.books") 898) none (.ref 533) .none)), #[]⟩) ::
  (nat_lit 547, ⟨(.type "code"), none, (.fields #[(.str (PySem.Str.ofString "__len__") 932), (.str (PySem.Str.ofString "Book.__len__") 933), (.str (PySem.Str.ofString "/claim/cut.py") 934), (.int (249) 0), (.int (1) 0), (.int (0) 0), (.int (0) 0), (.int (3) 0), (.ref 542), (.bool true), (.int (181) 0), (.ref 543), .none, (.ref 544), (.ref 545), (.ref 546), (.int (936) 0), (.int (249) 0), (.str (PySem.Str.ofString "/claim/cut.py") 937)]), #[]⟩) ::
  (nat_lit 548, ⟨(.type "function"), none, (.func (PySem.W.fnOf (PySem.Str.ofString "__len__") (PySem.Str.ofString "Book.__len__") (defArgs (inClass (topR 73) 2)) (defBody (inClass (topR 73) 2)) (defScope (inClass (topR 73) 2)) .none .none .none (.str (PySem.Str.ofString "opencalls.books") 898) none (.ref 547) .none)), #[]⟩) ::
  (nat_lit 561, ⟨(.type "code"), none, (.fields #[(.str (PySem.Str.ofString "now") 946), (.str (PySem.Str.ofString "Book.now") 947), (.str (PySem.Str.ofString "/claim/cut.py") 948), (.int (255) 0), (.int (1) 0), (.int (0) 0), (.int (0) 0), (.int (3) 0), (.ref 556), (.bool true), (.int (181) 0), (.ref 557), .none, (.ref 558), (.ref 559), (.ref 560), (.int (950) 0), (.int (255) 0), (.str (PySem.Str.ofString "/claim/cut.py") 951)]), #[]⟩) ::
  (nat_lit 562, ⟨(.type "function"), none, (.func (PySem.W.fnOf (PySem.Str.ofString "now") (PySem.Str.ofString "Book.now") (defArgs (inClass (topR 73) 4)) (defBody (inClass (topR 73) 4)) (defScope (inClass (topR 73) 4)) .none .none .none (.str (PySem.Str.ofString "opencalls.books") 898) none (.ref 561) .none)), #[]⟩) ::
  (nat_lit 568, ⟨(.type "code"), none, (.fields #[(.str (PySem.Str.ofString "refuse_amid") 953), (.str (PySem.Str.ofString "Book.refuse_amid") 954), (.str (PySem.Str.ofString "/claim/cut.py") 955), (.int (258) 0), (.int (1) 0), (.int (0) 0), (.int (0) 0), (.int (3) 0), (.ref 563), (.bool true), (.int (181) 0), (.ref 564), .none, (.ref 565), (.ref 566), (.ref 567), (.int (957) 0), (.int (258) 0), (.str (PySem.Str.ofString "/claim/cut.py") 958)]), #[]⟩) ::
  (nat_lit 569, ⟨(.type "function"), none, (.func (PySem.W.fnOf (PySem.Str.ofString "refuse_amid") (PySem.Str.ofString "Book.refuse_amid") (defArgs (inClass (topR 73) 5)) (defBody (inClass (topR 73) 5)) (defScope (inClass (topR 73) 5)) .none .none .none (.str (PySem.Str.ofString "opencalls.books") 898) none (.ref 568) .none)), #[]⟩) ::
  (nat_lit 575, ⟨(.type "code"), none, (.fields #[(.str (PySem.Str.ofString "perform") 960), (.str (PySem.Str.ofString "Book.perform") 961), (.str (PySem.Str.ofString "/claim/cut.py") 962), (.int (262) 0), (.int (2) 0), (.int (0) 0), (.int (0) 0), (.int (3) 0), (.ref 570), (.bool true), (.int (181) 0), (.ref 571), .none, (.ref 572), (.ref 573), (.ref 574), (.int (966) 0), (.int (262) 0), (.str (PySem.Str.ofString "/claim/cut.py") 967)]), #[]⟩) ::
  (nat_lit 576, ⟨(.type "function"), none, (.func (PySem.W.fnOf (PySem.Str.ofString "perform") (PySem.Str.ofString "Book.perform") (defArgs (inClass (topR 73) 6)) (defBody (inClass (topR 73) 6)) (defScope (inClass (topR 73) 6)) .none .none .none (.str (PySem.Str.ofString "opencalls.books") 898) none (.ref 575) .none)), #[]⟩) ::
  (nat_lit 582, ⟨(.type "code"), none, (.fields #[(.str (PySem.Str.ofString "call") 969), (.str (PySem.Str.ofString "Book.call") 970), (.str (PySem.Str.ofString "/claim/cut.py") 971), (.int (269) 0), (.int (3) 0), (.int (0) 0), (.int (0) 0), (.int (3) 0), (.ref 577), (.bool true), (.int (181) 0), (.ref 578), .none, (.ref 579), (.ref 580), (.ref 581), (.int (975) 0), (.int (269) 0), (.str (PySem.Str.ofString "/claim/cut.py") 976)]), #[]⟩) ::
  (nat_lit 583, ⟨(.type "function"), none, (.func (PySem.W.fnOf (PySem.Str.ofString "call") (PySem.Str.ofString "Book.call") (defArgs (inClass (topR 73) 7)) (defBody (inClass (topR 73) 7)) (defScope (inClass (topR 73) 7)) .none .none .none (.str (PySem.Str.ofString "opencalls.books") 898) none (.ref 582) .none)), #[]⟩) ::
  (nat_lit 589, ⟨(.type "code"), none, (.fields #[(.str (PySem.Str.ofString "whisper") 978), (.str (PySem.Str.ofString "Book.whisper") 979), (.str (PySem.Str.ofString "/claim/cut.py") 980), (.int (273) 0), (.int (3) 0), (.int (0) 0), (.int (0) 0), (.int (3) 0), (.ref 584), (.bool true), (.int (181) 0), (.ref 585), .none, (.ref 586), (.ref 587), (.ref 588), (.int (984) 0), (.int (273) 0), (.str (PySem.Str.ofString "/claim/cut.py") 985)]), #[]⟩) ::
  (nat_lit 590, ⟨(.type "function"), none, (.func (PySem.W.fnOf (PySem.Str.ofString "whisper") (PySem.Str.ofString "Book.whisper") (defArgs (inClass (topR 73) 8)) (defBody (inClass (topR 73) 8)) (defScope (inClass (topR 73) 8)) .none .none .none (.str (PySem.Str.ofString "opencalls.books") 898) none (.ref 589) .none)), #[]⟩) ::
  (nat_lit 596, ⟨(.type "code"), none, (.fields #[(.str (PySem.Str.ofString "meet") 987), (.str (PySem.Str.ofString "Book.meet") 988), (.str (PySem.Str.ofString "/claim/cut.py") 989), (.int (277) 0), (.int (2) 0), (.int (0) 0), (.int (0) 0), (.int (3) 0), (.ref 591), (.bool true), (.int (181) 0), (.ref 592), .none, (.ref 593), (.ref 594), (.ref 595), (.int (992) 0), (.int (277) 0), (.str (PySem.Str.ofString "/claim/cut.py") 993)]), #[]⟩) ::
  (nat_lit 597, ⟨(.type "function"), none, (.func (PySem.W.fnOf (PySem.Str.ofString "meet") (PySem.Str.ofString "Book.meet") (defArgs (inClass (topR 73) 9)) (defBody (inClass (topR 73) 9)) (defScope (inClass (topR 73) 9)) .none .none .none (.str (PySem.Str.ofString "opencalls.books") 898) none (.ref 596) .none)), #[]⟩) ::
  (nat_lit 633, ⟨(.type "dict"), none, (.dict (List.toArray (⟨PySem.PyData.keyHash P (PySem.Str.ofString "tell"), .str (PySem.Str.ofString "tell") 1035, .none⟩ :: [])) 1), #[]⟩) ::
  (nat_lit 660, ⟨(.type "code"), none, (.fields #[(.str (PySem.Str.ofString "moment_at") 1061), (.str (PySem.Str.ofString "Book.moment_at") 1062), (.str (PySem.Str.ofString "/claim/cut.py") 1063), (.int (313) 0), (.int (2) 0), (.int (0) 0), (.int (0) 0), (.int (3) 0), (.ref 655), (.bool true), (.int (181) 0), (.ref 656), .none, (.ref 657), (.ref 658), (.ref 659), (.int (1066) 0), (.int (313) 0), (.str (PySem.Str.ofString "/claim/cut.py") 1067)]), #[]⟩) ::
  (nat_lit 661, ⟨(.type "function"), none, (.func (PySem.W.fnOf (PySem.Str.ofString "moment_at") (PySem.Str.ofString "Book.moment_at") (defArgs (inClass (topR 73) 18)) (defBody (inClass (topR 73) 18)) (defScope (inClass (topR 73) 18)) .none .none .none (.str (PySem.Str.ofString "opencalls.books") 898) none (.ref 660) .none)), #[]⟩) ::
  (nat_lit 667, ⟨(.type "code"), none, (.fields #[(.str (PySem.Str.ofString "moment_of") 1069), (.str (PySem.Str.ofString "Book.moment_of") 1070), (.str (PySem.Str.ofString "/claim/cut.py") 1071), (.int (320) 0), (.int (4) 0), (.int (0) 0), (.int (0) 0), (.int (3) 0), (.ref 662), (.bool true), (.int (181) 0), (.ref 663), .none, (.ref 664), (.ref 665), (.ref 666), (.int (1077) 0), (.int (320) 0), (.str (PySem.Str.ofString "/claim/cut.py") 1078)]), #[]⟩) ::
  (nat_lit 668, ⟨(.type "function"), none, (.func (PySem.W.fnOf (PySem.Str.ofString "moment_of") (PySem.Str.ofString "Book.moment_of") (defArgs (inClass (topR 73) 19)) (defBody (inClass (topR 73) 19)) (defScope (inClass (topR 73) 19)) .none .none .none (.str (PySem.Str.ofString "opencalls.books") 898) none (.ref 667) .none)), #[]⟩) ::
  (nat_lit 669, ⟨(.type "dict"), none, (.dict (List.toArray (⟨PySem.PyData.keyHash P (PySem.Str.ofString "at"), .str (PySem.Str.ofString "at") 1080, .none⟩ :: [])) 1), #[]⟩) ::
  (nat_lit 675, ⟨(.type "code"), none, (.fields #[(.str (PySem.Str.ofString "names") 1081), (.str (PySem.Str.ofString "Book.names") 1082), (.str (PySem.Str.ofString "/claim/cut.py") 1083), (.int (325) 0), (.int (1) 0), (.int (0) 0), (.int (1) 0), (.int (3) 0), (.ref 670), (.bool true), (.int (181) 0), (.ref 671), .none, (.ref 672), (.ref 673), (.ref 674), (.int (1086) 0), (.int (325) 0), (.str (PySem.Str.ofString "/claim/cut.py") 1087)]), #[]⟩) ::
  (nat_lit 676, ⟨(.type "function"), none, (.func (PySem.W.fnOf (PySem.Str.ofString "names") (PySem.Str.ofString "Book.names") (defArgs (inClass (topR 73) 20)) (defBody (inClass (topR 73) 20)) (defScope (inClass (topR 73) 20)) .none (.ref 669) .none (.str (PySem.Str.ofString "opencalls.books") 898) none (.ref 675) .none)), #[]⟩) ::
  (nat_lit 677, ⟨(.type "dict"), none, (.dict (List.toArray (⟨PySem.PyData.keyHash P (PySem.Str.ofString "at"), .str (PySem.Str.ofString "at") 1089, .none⟩ :: [])) 1), #[]⟩) ::
  (nat_lit 683, ⟨(.type "code"), none, (.fields #[(.str (PySem.Str.ofString "heard") 1090), (.str (PySem.Str.ofString "Book.heard") 1091), (.str (PySem.Str.ofString "/claim/cut.py") 1092), (.int (328) 0), (.int (2) 0), (.int (0) 0), (.int (1) 0), (.int (3) 0), (.ref 678), (.bool true), (.int (181) 0), (.ref 679), .none, (.ref 680), (.ref 681), (.ref 682), (.int (1096) 0), (.int (328) 0), (.str (PySem.Str.ofString "/claim/cut.py") 1097)]), #[]⟩) ::
  (nat_lit 684, ⟨(.type "function"), none, (.func (PySem.W.fnOf (PySem.Str.ofString "heard") (PySem.Str.ofString "Book.heard") (defArgs (inClass (topR 73) 21)) (defBody (inClass (topR 73) 21)) (defScope (inClass (topR 73) 21)) .none (.ref 677) .none (.str (PySem.Str.ofString "opencalls.books") 898) none (.ref 683) .none)), #[]⟩) ::
  (nat_lit 685, ⟨(.type "dict"), none, (.dict (List.toArray (⟨PySem.PyData.keyHash P (PySem.Str.ofString "at"), .str (PySem.Str.ofString "at") 1099, .none⟩ :: [])) 1), #[]⟩) ::
  (nat_lit 691, ⟨(.type "code"), none, (.fields #[(.str (PySem.Str.ofString "known") 1100), (.str (PySem.Str.ofString "Book.known") 1101), (.str (PySem.Str.ofString "/claim/cut.py") 1102), (.int (331) 0), (.int (2) 0), (.int (0) 0), (.int (1) 0), (.int (3) 0), (.ref 686), (.bool true), (.int (181) 0), (.ref 687), .none, (.ref 688), (.ref 689), (.ref 690), (.int (1106) 0), (.int (331) 0), (.str (PySem.Str.ofString "/claim/cut.py") 1107)]), #[]⟩) ::
  (nat_lit 692, ⟨(.type "function"), none, (.func (PySem.W.fnOf (PySem.Str.ofString "known") (PySem.Str.ofString "Book.known") (defArgs (inClass (topR 73) 22)) (defBody (inClass (topR 73) 22)) (defScope (inClass (topR 73) 22)) .none (.ref 685) .none (.str (PySem.Str.ofString "opencalls.books") 898) none (.ref 691) .none)), #[]⟩) ::
  (nat_lit 693, ⟨(.type "dict"), none, (.dict (List.toArray (⟨PySem.PyData.keyHash P (PySem.Str.ofString "at"), .str (PySem.Str.ofString "at") 1109, .none⟩ :: [])) 1), #[]⟩) ::
  (nat_lit 699, ⟨(.type "code"), none, (.fields #[(.str (PySem.Str.ofString "common") 1110), (.str (PySem.Str.ofString "Book.common") 1111), (.str (PySem.Str.ofString "/claim/cut.py") 1112), (.int (334) 0), (.int (2) 0), (.int (0) 0), (.int (1) 0), (.int (3) 0), (.ref 694), (.bool true), (.int (181) 0), (.ref 695), .none, (.ref 696), (.ref 697), (.ref 698), (.int (1116) 0), (.int (334) 0), (.str (PySem.Str.ofString "/claim/cut.py") 1117)]), #[]⟩) ::
  (nat_lit 700, ⟨(.type "function"), none, (.func (PySem.W.fnOf (PySem.Str.ofString "common") (PySem.Str.ofString "Book.common") (defArgs (inClass (topR 73) 23)) (defBody (inClass (topR 73) 23)) (defScope (inClass (topR 73) 23)) .none (.ref 693) .none (.str (PySem.Str.ofString "opencalls.books") 898) none (.ref 699) .none)), #[]⟩) ::
  (nat_lit 701, ⟨(.type "dict"), none, (.dict (List.toArray (⟨PySem.PyData.keyHash P (PySem.Str.ofString "at"), .str (PySem.Str.ofString "at") 1119, .none⟩ :: [])) 1), #[]⟩) ::
  (nat_lit 707, ⟨(.type "code"), none, (.fields #[(.str (PySem.Str.ofString "knows") 1120), (.str (PySem.Str.ofString "Book.knows") 1121), (.str (PySem.Str.ofString "/claim/cut.py") 1122), (.int (337) 0), (.int (3) 0), (.int (0) 0), (.int (1) 0), (.int (3) 0), (.ref 702), (.bool true), (.int (181) 0), (.ref 703), .none, (.ref 704), (.ref 705), (.ref 706), (.int (1128) 0), (.int (337) 0), (.str (PySem.Str.ofString "/claim/cut.py") 1129)]), #[]⟩) ::
  (nat_lit 708, ⟨(.type "function"), none, (.func (PySem.W.fnOf (PySem.Str.ofString "knows") (PySem.Str.ofString "Book.knows") (defArgs (inClass (topR 73) 24)) (defBody (inClass (topR 73) 24)) (defScope (inClass (topR 73) 24)) .none (.ref 701) .none (.str (PySem.Str.ofString "opencalls.books") 898) none (.ref 707) .none)), #[]⟩) ::
  (nat_lit 709, ⟨(.type "dict"), none, (.dict (List.toArray (⟨PySem.PyData.keyHash P (PySem.Str.ofString "at"), .str (PySem.Str.ofString "at") 1131, .none⟩ :: [])) 1), #[]⟩) ::
  (nat_lit 745, ⟨(.type "dict"), none, (.dict (List.toArray (⟨PySem.PyData.keyHash P (PySem.Str.ofString "at"), .str (PySem.Str.ofString "at") 1173, .none⟩ :: [])) 1), #[]⟩) ::
  (nat_lit 751, ⟨(.type "code"), none, (.fields #[(.str (PySem.Str.ofString "stand") 1174), (.str (PySem.Str.ofString "Book.stand") 1175), (.str (PySem.Str.ofString "/claim/cut.py") 1176), (.int (357) 0), (.int (1) 0), (.int (0) 0), (.int (1) 0), (.int (3) 0), (.ref 746), (.bool true), (.int (181) 0), (.ref 747), .none, (.ref 748), (.ref 749), (.ref 750), (.int (1179) 0), (.int (357) 0), (.str (PySem.Str.ofString "/claim/cut.py") 1180)]), #[]⟩) ::
  (nat_lit 752, ⟨(.type "function"), none, (.func (PySem.W.fnOf (PySem.Str.ofString "stand") (PySem.Str.ofString "Book.stand") (defArgs (inClass (topR 73) 30)) (defBody (inClass (topR 73) 30)) (defScope (inClass (topR 73) 30)) .none (.ref 745) .none (.str (PySem.Str.ofString "opencalls.books") 898) none (.ref 751) .none)), #[]⟩) ::
  (nat_lit 754, ⟨(.type "dict"), none, (.dict (List.toArray (⟨PySem.PyData.keyHash P (PySem.Str.ofString "__module__"), .str (PySem.Str.ofString "__module__") 909, (.str (PySem.Str.ofString "opencalls.books") 898)⟩ :: ⟨PySem.PyData.keyHash P (PySem.Str.ofString "__firstlineno__"), .str (PySem.Str.ofString "__firstlineno__") 913, (.int (237) 912)⟩ :: ⟨PySem.PyData.keyHash P (PySem.Str.ofString "__init__"), .str (PySem.Str.ofString "__init__") 923, (.ref 534)⟩ :: ⟨PySem.PyData.keyHash P (PySem.Str.ofString "__eq__"), .str (PySem.Str.ofString "__eq__") 931, (.ref 541)⟩ :: ⟨PySem.PyData.keyHash P (PySem.Str.ofString "__len__"), .str (PySem.Str.ofString "__len__") 938, (.ref 548)⟩ :: ⟨PySem.PyData.keyHash P (PySem.Str.ofString "__str__"), .str (PySem.Str.ofString "__str__") 945, (.ref 555)⟩ :: ⟨PySem.PyData.keyHash P (PySem.Str.ofString "now"), .str (PySem.Str.ofString "now") 952, (.ref 562)⟩ :: ⟨PySem.PyData.keyHash P (PySem.Str.ofString "refuse_amid"), .str (PySem.Str.ofString "refuse_amid") 959, (.ref 569)⟩ :: ⟨PySem.PyData.keyHash P (PySem.Str.ofString "perform"), .str (PySem.Str.ofString "perform") 968, (.ref 576)⟩ :: ⟨PySem.PyData.keyHash P (PySem.Str.ofString "call"), .str (PySem.Str.ofString "call") 977, (.ref 583)⟩ :: ⟨PySem.PyData.keyHash P (PySem.Str.ofString "whisper"), .str (PySem.Str.ofString "whisper") 986, (.ref 590)⟩ :: ⟨PySem.PyData.keyHash P (PySem.Str.ofString "meet"), .str (PySem.Str.ofString "meet") 994, (.ref 597)⟩ :: ⟨PySem.PyData.keyHash P (PySem.Str.ofString "hide"), .str (PySem.Str.ofString "hide") 1001, (.ref 604)⟩ :: ⟨PySem.PyData.keyHash P (PySem.Str.ofString "change"), .str (PySem.Str.ofString "change") 1010, (.ref 611)⟩ :: ⟨PySem.PyData.keyHash P (PySem.Str.ofString "come"), .str (PySem.Str.ofString "come") 1019, (.ref 618)⟩ :: ⟨PySem.PyData.keyHash P (PySem.Str.ofString "go"), .str (PySem.Str.ofString "go") 1027, (.ref 625)⟩ :: ⟨PySem.PyData.keyHash P (PySem.Str.ofString "back"), .str (PySem.Str.ofString "back") 1034, (.ref 632)⟩ :: ⟨PySem.PyData.keyHash P (PySem.Str.ofString "tried"), .str (PySem.Str.ofString "tried") 1044, (.ref 640)⟩ :: ⟨PySem.PyData.keyHash P (PySem.Str.ofString "perform_all"), .str (PySem.Str.ofString "perform_all") 1053, (.ref 647)⟩ :: ⟨PySem.PyData.keyHash P (PySem.Str.ofString "log"), .str (PySem.Str.ofString "log") 1060, (.ref 654)⟩ :: ⟨PySem.PyData.keyHash P (PySem.Str.ofString "moment_at"), .str (PySem.Str.ofString "moment_at") 1068, (.ref 661)⟩ :: ⟨PySem.PyData.keyHash P (PySem.Str.ofString "moment_of"), .str (PySem.Str.ofString "moment_of") 1079, (.ref 668)⟩ :: ⟨PySem.PyData.keyHash P (PySem.Str.ofString "names"), .str (PySem.Str.ofString "names") 1088, (.ref 676)⟩ :: ⟨PySem.PyData.keyHash P (PySem.Str.ofString "heard"), .str (PySem.Str.ofString "heard") 1098, (.ref 684)⟩ :: ⟨PySem.PyData.keyHash P (PySem.Str.ofString "known"), .str (PySem.Str.ofString "known") 1108, (.ref 692)⟩ :: ⟨PySem.PyData.keyHash P (PySem.Str.ofString "common"), .str (PySem.Str.ofString "common") 1118, (.ref 700)⟩ :: ⟨PySem.PyData.keyHash P (PySem.Str.ofString "knows"), .str (PySem.Str.ofString "knows") 1130, (.ref 708)⟩ :: ⟨PySem.PyData.keyHash P (PySem.Str.ofString "why"), .str (PySem.Str.ofString "why") 1141, (.ref 716)⟩ :: ⟨PySem.PyData.keyHash P (PySem.Str.ofString "learned"), .str (PySem.Str.ofString "learned") 1149, (.ref 723)⟩ :: ⟨PySem.PyData.keyHash P (PySem.Str.ofString "idle"), .str (PySem.Str.ofString "idle") 1156, (.ref 730)⟩ :: ⟨PySem.PyData.keyHash P (PySem.Str.ofString "is_idle"), .str (PySem.Str.ofString "is_idle") 1165, (.ref 737)⟩ :: ⟨PySem.PyData.keyHash P (PySem.Str.ofString "its_deeds"), .str (PySem.Str.ofString "its_deeds") 1172, (.ref 744)⟩ :: ⟨PySem.PyData.keyHash P (PySem.Str.ofString "stand"), .str (PySem.Str.ofString "stand") 1181, (.ref 752)⟩ :: ⟨PySem.PyData.keyHash P (PySem.Str.ofString "__static_attributes__"), .str (PySem.Str.ofString "__static_attributes__") 1187, (.ref 753)⟩ :: ⟨PySem.PyData.keyHash P (PySem.Str.ofString "__dict__"), .str (PySem.Str.ofString "__dict__") 1189, (.ref 756)⟩ :: ⟨PySem.PyData.keyHash P (PySem.Str.ofString "__weakref__"), .str (PySem.Str.ofString "__weakref__") 1191, (.ref 757)⟩ :: ⟨PySem.PyData.keyHash P (PySem.Str.ofString "__doc__"), .str (PySem.Str.ofString "__doc__") 1192, .none⟩ :: ⟨PySem.PyData.keyHash P (PySem.Str.ofString "__hash__"), .str (PySem.Str.ofString "__hash__") 1193, .none⟩ :: [])) 5), #[]⟩) ::
  (nat_lit 755, ⟨(.type "type"), none, (.cls { name := (PySem.Str.ofString "Book"), bases := [(.type "object")], mro := [(.ref 755), (.type "object")], ns := 754, qualname := (PySem.Str.ofString "Book"), hasDict := true, slotNames := [], subclasses := [], abstract := false, collection := none, hasDel := false }), #[none, none, (some (.str (PySem.Str.ofString "Book") 902)), (some (.str (PySem.Str.ofString "Book") 910)), (some (.builtin "object.__new__")), (some (.bool true))]⟩) ::
  (nat_lit 756, ⟨(.type "getset_descriptor"), none, (.fields #[(.str (PySem.Str.ofString "__dict__") 1188), (.ref 755), (.builtin "function.__dict__"), (.builtin "function.__dict__#set")]), #[]⟩) ::
  (nat_lit 757, ⟨(.type "getset_descriptor"), none, (.fields #[(.str (PySem.Str.ofString "__weakref__") 1190), (.ref 755), (.builtin "ExceptionGroup.__weakref__"), .none]), #[]⟩) ::
  (nat_lit 763, ⟨(.type "code"), none, (.fields #[(.str (PySem.Str.ofString "_law_deck") 1198), (.str (PySem.Str.ofString "_law_deck") 1199), (.str (PySem.Str.ofString "/claim/cut.py") 1200), (.int (360) 0), (.int (1) 0), (.int (0) 0), (.int (0) 0), (.int (3) 0), (.ref 760), (.bool true), (.int (181) 0), (.ref 761), .none, .none, .none, (.ref 762), (.int (1201) 0), (.int (360) 0), (.str (PySem.Str.ofString "/claim/cut.py") 1202)]), #[]⟩) ::
  (nat_lit 764, ⟨(.type "function"), none, (.func (PySem.W.fnOf (PySem.Str.ofString "_law_deck") (PySem.Str.ofString "_law_deck") (defArgs (topR 75)) (defBody (topR 75)) (defScope (topR 75)) .none .none .none (.str (PySem.Str.ofString "law_opencalls_k79_whole_rooms_alone") 1196) none (.ref 763) .none)), #[]⟩) ::
  (nat_lit 770, ⟨(.type "code"), none, (.fields #[(.str (PySem.Str.ofString "_law_draw") 1204), (.str (PySem.Str.ofString "_law_draw") 1205), (.str (PySem.Str.ofString "/claim/cut.py") 1206), (.int (362) 0), (.int (2) 0), (.int (0) 0), (.int (0) 0), (.int (3) 0), (.ref 765), (.bool true), (.int (181) 0), (.ref 766), .none, (.ref 767), (.ref 768), (.ref 769), (.int (1211) 0), (.int (362) 0), (.str (PySem.Str.ofString "/claim/cut.py") 1212)]), #[]⟩) ::
  (nat_lit 771, ⟨(.type "function"), none, (.func (PySem.W.fnOf (PySem.Str.ofString "_law_draw") (PySem.Str.ofString "_law_draw") (defArgs (topR 76)) (defBody (topR 76)) (defScope (topR 76)) .none .none .none (.str (PySem.Str.ofString "law_opencalls_k79_whole_rooms_alone") 1196) none (.ref 770) .none)), #[]⟩) ::
  (nat_lit 777, ⟨(.type "code"), none, (.fields #[(.str (PySem.Str.ofString "_law_prime") 1214), (.str (PySem.Str.ofString "_law_prime") 1215), (.str (PySem.Str.ofString "/claim/cut.py") 1216), (.int (373) 0), (.int (1) 0), (.int (0) 0), (.int (0) 0), (.int (3) 0), (.ref 772), (.bool true), (.int (181) 0), (.ref 773), .none, (.ref 774), (.ref 775), (.ref 776), (.int (1218) 0), (.int (373) 0), (.str (PySem.Str.ofString "/claim/cut.py") 1219)]), #[]⟩) ::
  (nat_lit 778, ⟨(.type "function"), none, (.func (PySem.W.fnOf (PySem.Str.ofString "_law_prime") (PySem.Str.ofString "_law_prime") (defArgs (topR 77)) (defBody (topR 77)) (defScope (topR 77)) .none .none .none (.str (PySem.Str.ofString "law_opencalls_k79_whole_rooms_alone") 1196) none (.ref 777) .none)), #[]⟩) ::
  (nat_lit 782, ⟨(.type "code"), none, (.fields #[(.str (PySem.Str.ofString "_law_row") 1221), (.str (PySem.Str.ofString "_law_row") 1222), (.str (PySem.Str.ofString "/claim/cut.py") 1223), (.int (375) 0), (.int (3) 0), (.int (0) 0), (.int (0) 0), (.int (3) 0), (.ref 779), (.bool true), (.int (181) 0), (.ref 780), .none, .none, .none, (.ref 781), (.int (1224) 0), (.int (375) 0), (.str (PySem.Str.ofString "/claim/cut.py") 1225)]), #[]⟩) ::
  (nat_lit 783, ⟨(.type "function"), none, (.func (PySem.W.fnOf (PySem.Str.ofString "_law_row") (PySem.Str.ofString "_law_row") (defArgs (topR 78)) (defBody (topR 78)) (defScope (topR 78)) .none .none .none (.str (PySem.Str.ofString "law_opencalls_k79_whole_rooms_alone") 1196) none (.ref 782) .none)), #[]⟩) ::
  (nat_lit 787, ⟨(.type "code"), none, (.fields #[(.str (PySem.Str.ofString "_law_plus") 1227), (.str (PySem.Str.ofString "_law_plus") 1228), (.str (PySem.Str.ofString "/claim/cut.py") 1229), (.int (377) 0), (.int (4) 0), (.int (0) 0), (.int (0) 0), (.int (3) 0), (.ref 784), (.bool true), (.int (181) 0), (.ref 785), .none, .none, .none, (.ref 786), (.int (1230) 0), (.int (377) 0), (.str (PySem.Str.ofString "/claim/cut.py") 1231)]), #[]⟩) ::
  (nat_lit 788, ⟨(.type "function"), none, (.func (PySem.W.fnOf (PySem.Str.ofString "_law_plus") (PySem.Str.ofString "_law_plus") (defArgs (topR 79)) (defBody (topR 79)) (defScope (topR 79)) .none .none .none (.str (PySem.Str.ofString "law_opencalls_k79_whole_rooms_alone") 1196) none (.ref 787) .none)), #[]⟩) ::
  (nat_lit 794, ⟨(.type "code"), none, (.fields #[(.str (PySem.Str.ofString "_law_mixed") 1233), (.str (PySem.Str.ofString "_law_mixed") 1234), (.str (PySem.Str.ofString "/claim/cut.py") 1235), (.int (379) 0), (.int (4) 0), (.int (0) 0), (.int (0) 0), (.int (3) 0), (.ref 789), (.bool true), (.int (181) 0), (.ref 790), .none, (.ref 791), (.ref 792), (.ref 793), (.int (1242) 0), (.int (379) 0), (.str (PySem.Str.ofString "/claim/cut.py") 1243)]), #[]⟩) ::
  (nat_lit 795, ⟨(.type "function"), none, (.func (PySem.W.fnOf (PySem.Str.ofString "_law_mixed") (PySem.Str.ofString "_law_mixed") (defArgs (topR 80)) (defBody (topR 80)) (defScope (topR 80)) .none .none .none (.str (PySem.Str.ofString "law_opencalls_k79_whole_rooms_alone") 1196) none (.ref 794) .none)), #[]⟩) ::
  (nat_lit 801, ⟨(.type "code"), none, (.fields #[(.str (PySem.Str.ofString "_law_rows") 1245), (.str (PySem.Str.ofString "_law_rows") 1246), (.str (PySem.Str.ofString "/claim/cut.py") 1247), (.int (384) 0), (.int (4) 0), (.int (0) 0), (.int (0) 0), (.int (3) 0), (.ref 796), (.bool true), (.int (181) 0), (.ref 797), .none, (.ref 798), (.ref 799), (.ref 800), (.int (1255) 0), (.int (384) 0), (.str (PySem.Str.ofString "/claim/cut.py") 1256)]), #[]⟩) ::
  (nat_lit 802, ⟨(.type "function"), none, (.func (PySem.W.fnOf (PySem.Str.ofString "_law_rows") (PySem.Str.ofString "_law_rows") (defArgs (topR 81)) (defBody (topR 81)) (defScope (topR 81)) .none .none .none (.str (PySem.Str.ofString "law_opencalls_k79_whole_rooms_alone") 1196) none (.ref 801) .none)), #[]⟩) ::
  (nat_lit 806, ⟨(.type "code"), none, (.fields #[(.str (PySem.Str.ofString "_law_turned") 1258), (.str (PySem.Str.ofString "_law_turned") 1259), (.str (PySem.Str.ofString "/claim/cut.py") 1260), (.int (395) 0), (.int (2) 0), (.int (0) 0), (.int (0) 0), (.int (3) 0), (.ref 803), (.bool true), (.int (181) 0), (.ref 804), .none, .none, .none, (.ref 805), (.int (1261) 0), (.int (395) 0), (.str (PySem.Str.ofString "/claim/cut.py") 1262)]), #[]⟩) ::
  (nat_lit 807, ⟨(.type "function"), none, (.func (PySem.W.fnOf (PySem.Str.ofString "_law_turned") (PySem.Str.ofString "_law_turned") (defArgs (topR 82)) (defBody (topR 82)) (defScope (topR 82)) .none .none .none (.str (PySem.Str.ofString "law_opencalls_k79_whole_rooms_alone") 1196) none (.ref 806) .none)), #[]⟩) ::
  (nat_lit 811, ⟨(.type "code"), none, (.fields #[(.str (PySem.Str.ofString "_law_names") 1264), (.str (PySem.Str.ofString "_law_names") 1265), (.str (PySem.Str.ofString "/claim/cut.py") 1266), (.int (398) 0), (.int (2) 0), (.int (0) 0), (.int (0) 0), (.int (3) 0), (.ref 808), (.bool true), (.int (181) 0), (.ref 809), .none, .none, .none, (.ref 810), (.int (1267) 0), (.int (398) 0), (.str (PySem.Str.ofString "/claim/cut.py") 1268)]), #[]⟩) ::
  (nat_lit 812, ⟨(.type "function"), none, (.func (PySem.W.fnOf (PySem.Str.ofString "_law_names") (PySem.Str.ofString "_law_names") (defArgs (topR 83)) (defBody (topR 83)) (defScope (topR 83)) .none .none .none (.str (PySem.Str.ofString "law_opencalls_k79_whole_rooms_alone") 1196) none (.ref 811) .none)), #[]⟩) ::
  (nat_lit 818, ⟨(.type "code"), none, (.fields #[(.str (PySem.Str.ofString "_law_otherwise") 1270), (.str (PySem.Str.ofString "_law_otherwise") 1271), (.str (PySem.Str.ofString "/claim/cut.py") 1272), (.int (404) 0), (.int (4) 0), (.int (0) 0), (.int (0) 0), (.int (3) 0), (.ref 813), (.bool true), (.int (181) 0), (.ref 814), .none, (.ref 815), (.ref 816), (.ref 817), (.int (1280) 0), (.int (404) 0), (.str (PySem.Str.ofString "/claim/cut.py") 1281)]), #[]⟩) ::
  (nat_lit 819, ⟨(.type "function"), none, (.func (PySem.W.fnOf (PySem.Str.ofString "_law_otherwise") (PySem.Str.ofString "_law_otherwise") (defArgs (topR 84)) (defBody (topR 84)) (defScope (topR 84)) .none .none .none (.str (PySem.Str.ofString "law_opencalls_k79_whole_rooms_alone") 1196) none (.ref 818) .none)), #[]⟩) ::
  (nat_lit 825, ⟨(.type "code"), none, (.fields #[(.str (PySem.Str.ofString "_law_deed") 1283), (.str (PySem.Str.ofString "_law_deed") 1284), (.str (PySem.Str.ofString "/claim/cut.py") 1285), (.int (412) 0), (.int (5) 0), (.int (0) 0), (.int (0) 0), (.int (3) 0), (.ref 820), (.bool true), (.int (181) 0), (.ref 821), .none, (.ref 822), (.ref 823), (.ref 824), (.int (1296) 0), (.int (412) 0), (.str (PySem.Str.ofString "/claim/cut.py") 1297)]), #[]⟩) ::
  (nat_lit 826, ⟨(.type "function"), none, (.func (PySem.W.fnOf (PySem.Str.ofString "_law_deed") (PySem.Str.ofString "_law_deed") (defArgs (topR 85)) (defBody (topR 85)) (defScope (topR 85)) .none .none .none (.str (PySem.Str.ofString "law_opencalls_k79_whole_rooms_alone") 1196) none (.ref 825) .none)), #[]⟩) ::
  (nat_lit 830, ⟨(.type "code"), none, (.fields #[(.str (PySem.Str.ofString "_law_alike") 1299), (.str (PySem.Str.ofString "_law_alike") 1300), (.str (PySem.Str.ofString "/claim/cut.py") 1301), (.int (429) 0), (.int (3) 0), (.int (0) 0), (.int (0) 0), (.int (3) 0), (.ref 827), (.bool true), (.int (181) 0), (.ref 828), .none, .none, .none, (.ref 829), (.int (1302) 0), (.int (429) 0), (.str (PySem.Str.ofString "/claim/cut.py") 1303)]), #[]⟩) ::
  (nat_lit 831, ⟨(.type "function"), none, (.func (PySem.W.fnOf (PySem.Str.ofString "_law_alike") (PySem.Str.ofString "_law_alike") (defArgs (topR 86)) (defBody (topR 86)) (defScope (topR 86)) .none .none .none (.str (PySem.Str.ofString "law_opencalls_k79_whole_rooms_alone") 1196) none (.ref 830) .none)), #[]⟩) ::
  (nat_lit 835, ⟨(.type "code"), none, (.fields #[(.str (PySem.Str.ofString "law") 1305), (.str (PySem.Str.ofString "law") 1306), (.str (PySem.Str.ofString "/claim/cut.py") 1307), (.int (446) 0), (.int (1) 0), (.int (0) 0), (.int (0) 0), (.int (3) 0), (.ref 832), (.bool true), (.int (181) 0), (.ref 833), .none, .none, .none, (.ref 834), (.int (1308) 0), (.int (446) 0), (.str (PySem.Str.ofString "/claim/cut.py") 1309)]), #[]⟩) ::
  (nat_lit 836, ⟨(.type "function"), none, (.func (PySem.W.fnOf (PySem.Str.ofString "law") (PySem.Str.ofString "law") (defArgs (topR 87)) (defBody (topR 87)) (defScope (topR 87)) .none .none .none (.str (PySem.Str.ofString "law_opencalls_k79_whole_rooms_alone") 1196) none (.ref 835) .none)), #[]⟩) ::
  []
def as0 : List Addr := 2 :: 3 :: 30 :: 31 :: 32 :: 43 :: 44 :: 62 :: 63 :: 74 :: 75 :: 86 :: 87 :: 105 :: 106 :: 117 :: 118 :: 136 :: 137 :: 155 :: 156 :: 167 :: 168 :: 179 :: 180 :: 191 :: 192 :: 203 :: 204 :: 222 :: 223 :: 224 :: 242 :: 243 :: 244 :: 250 :: 251 :: 255 :: 256 :: 260 :: 261 :: 267 :: 268 :: 274 :: 275 :: 281 :: 282 :: 286 :: 287 :: 291 :: 292 :: 296 :: 297 :: 303 :: 304 :: 310 :: 311 :: 317 :: 318 :: 329 :: 330 :: 336 :: 337 :: 343 :: 344 :: 350 :: 351 :: 355 :: 356 :: 362 :: 363 :: 369 :: 370 :: 376 :: 377 :: 383 :: 384 :: 388 :: 389 :: 395 :: 396 :: 402 :: 403 :: 416 :: 417 :: 419 :: 420 :: 421 :: 422 :: 428 :: 429 :: 435 :: 436 :: 442 :: 443 :: 449 :: 450 :: 454 :: 455 :: 464 :: 465 :: 469 :: 470 :: 474 :: 475 :: 479 :: 480 :: 513 :: 519 :: 520 :: 533 :: 534 :: 547 :: 548 :: 561 :: 562 :: 568 :: 569 :: 575 :: 576 :: 582 :: 583 :: 589 :: 590 :: 596 :: 597 :: 633 :: 660 :: 661 :: 667 :: 668 :: 669 :: 675 :: 676 :: 677 :: 683 :: 684 :: 685 :: 691 :: 692 :: 693 :: 699 :: 700 :: 701 :: 707 :: 708 :: 709 :: 745 :: 751 :: 752 :: 754 :: 755 :: 756 :: 757 :: 763 :: 764 :: 770 :: 771 :: 777 :: 778 :: 782 :: 783 :: 787 :: 788 :: 794 :: 795 :: 801 :: 802 :: 806 :: 807 :: 811 :: 812 :: 818 :: 819 :: 825 :: 826 :: 830 :: 831 :: 835 :: 836 :: []
theorem as_ok (P : PySem.Params) : as0 = (K0 P).map (·.1) := by kernel_rfl
def names : List PySem.Str := (["_wall", "CallError", "NoRow", "NotKnown", "NoGroup", "Full", "NoPlace", "NoTurn", "NoName", "Taken", "Few", "NothingBack"] : List PySem.Str) ++ (["Long", "Busy", "NoHand", "NoMoment", "LETTERS", "is_name", "is_rising", "are_names", "is_number", "is_rest", "contrary", "is_row"] : List PySem.Str) ++ (["added", "times", "check_hand", "check_hands", "check_row", "led", "is_noughts", "first_place", "cleared", "left_of", "widened", "room_of"] : List PySem.Str) ++ (["within", "joined", "shared", "across", "across_at", "needed", "Moment", "names_at", "heard_at", "known_at", "common_at", "stand_at"] : List PySem.Str) ++ (["are_first_rows", "after_call", "after_whisper", "after_meet", "news", "after_hide", "longer", "after_change", "all_led", "after_come", "after_go", "STEPS"] : List PySem.Str) ++ (["after", "DEEDS", "Book", "_law_deck", "_law_draw", "_law_prime", "_law_row", "_law_plus", "_law_mixed", "_law_rows", "_law_turned", "_law_names"] : List PySem.Str) ++ (["_law_otherwise", "_law_deed", "_law_alike"] : List PySem.Str)
abbrev R : PySem.W.OpenRow := PySem.W.OpenLaw.row PySem.Challenge.rw_opencalls_k79_whole_rooms_alone
abbrev hk : PySem.W.Hook := PySem.W.kHook K0 as0 as_ok
def ob (s : PySem.W.SharedT) : List (Option Obj) := as0.map (HandSHeadRun.getT s)
theorem ob_eq (s : PySem.W.SharedT) : ob s = hk.obs s.abs := by
  have e : HandSHeadRun.getT s = s.abs.heap.get? := funext (HandSHeadRun.getT_eq s)
  unfold ob
  rw [e]
  rfl
def RE (w : World) : Prop := HandSHeadRun.RunEq R (PySem.W.view R.prog [87]) hk ob 20000 names w
set_option maxHeartbeats 0 in
theorem run_f (w : World) : RE (w.withFollow "special-get-raises" false) := by
  intro os
  kernel_rfl
set_option maxHeartbeats 0 in
theorem run_t (w : World) : RE (w.withFollow "special-get-raises" true) := by
  intro os
  kernel_rfl
theorem run (w : World) : RE w := PySem.W.byRow2 "special-get-raises" run_f run_t w
end OCR
set_option Elab.async false
set_option linter.all false
set_option maxRecDepth 100000
namespace OC
open PySem PySem.Spec PyProof.Rows L2
/-! ### defs and their promises, by name -/
structure Df (K : PySem.W.Frag) (mg : Str → Option Value) (x : Str) (st : Stmt) (ps : List Str) : Prop where
  ex : ∃ (f : Addr) (fd : FuncData), Fun K x x st f fd ∧ Binds K fd ps [] ∧ mg x = some (.ref f)
structure Ok (P : Program) (w : World) (K : PySem.W.Frag) (mg : Str → Option Value) (base : Heap) (k : Nat) (x : Str) (ps : List Str) (sp : Sp) : Prop where
  ex : ∃ (f : Addr) (fd : FuncData), FnOk P w K mg base CX0 k f fd ps sp ∧ mg x = some (.ref f) ∧ PySem.W.keepIn K (.ref f) = true ∧ Binds K fd ps []
section
variable {P : Program} {w : World} {K : PySem.W.Frag} {mg : Str → Option Value} {base : Heap}
theorem Df.ok {x : Str} {st : Stmt} {N ps : List Str} {k : Nat} {sp : Sp} (D : Df K mg x st ps) (S : FnScope N ps (defScope st)) (len : ∀ vs H Q E, sp vs H Q E → vs.length = ps.length)
    (hbody : ∀ (f : Addr) (cdv : Value) (A : Around) (outer : List Env) (s : Shared) (H : Hp) (vs : List V) (Q : VK) (E : XK), Room k (A.deeper (envOfC x (defScope st) s.heap.objs.size f cdv)) → sp vs H Q E →
      ∃ t, PSs (cxOf CX0 P w K mg base N x (defScope st) f cdv A outer s H E).nox (defBody st) t ∧ t { nx := fun _ H' => Q .non H', rt := Q } (start N vs) H) : Ok P w K mg base (k + 1) x ps sp := by
  obtain ⟨f, fd, F, b, g⟩ := D.ex
  exact ⟨f, fd, F.ok S len (hbody f), g, F.kp, b⟩
theorem Ok.mono {x : Str} {ps : List Str} {j k : Nat} {sp : Sp} (O : Ok P w K mg base j x ps sp) (h : j ≤ k) : Ok P w K mg base k x ps sp := by
  obtain ⟨f, fd, F, r⟩ := O.ex
  exact ⟨f, fd, F.mono h, r⟩
theorem Ok.imp {x : Str} {ps : List Str} {k : Nat} {sp sp' : Sp} (O : Ok P w K mg base k x ps sp) (h : ∀ vs H Q E, sp' vs H Q E → sp vs H Q E) : Ok P w K mg base k x ps sp' := by
  obtain ⟨f, fd, F, r⟩ := O.ex
  exact ⟨f, fd, F.imp h, r⟩
end
section
variable {X : Cx} {x : Str} {ps : List Str} {k : Nat} {sp : Sp}
theorem pe_callO {e : Expr} {es : List Expr} {t : TA} {p pos : Pos} (O : Ok X.prog X.w X.K X.mg X.base k x ps sp) (hr : Room k X.A) (hg : Gl X x) (ha : PA X (e :: es) t) (hdb : (x == ("__debug__" : Str)) = false := by decide)
    (he : starEach (e :: es) X.env = (false, eval e X.env) :: starEach es X.env := by rfl) (hpl : (backTo pos (starEach es X.env)).any (·.1) = false := by rfl) :
    PE X (.Call (.Name x p) (e :: es) [] pos) (tCall sp [] E0 t) := by
  obtain ⟨f, fd, F, g, kp, b⟩ := O.ex
  exact pe_call F hr hg g kp b .nil pass0 ha hdb he hpl
end
/-! ### from the head's facts -/
theorem df_of {K : PySem.W.Frag} {h : Heap} {mg : Str → Option Value} {x : Str} {st : Stmt} {ps : List Str} {f : Addr} {oc : Value} {od an : Option Addr} {osl : Array (Option Value)} {kV doc pm cdv ct : Value} (X : K.In h) (G : h.Ns mainGlobals mg)
    (a : PySem.W.nsIn K mainGlobals x = some (some (.ref f)))
    (l : K.lookup f = some ⟨oc, od, .func (PySem.W.fnOf x x (defArgs st) (defBody st) (defScope st) .none kV doc pm an cdv ct), osl⟩)
    (c : PySem.W.codeIn K cdv x = true) (k : PySem.W.keepIn K (.ref f) = true)
    (hb : ∀ (kV doc pm : Value) (an : Option Addr) (cdv ct : Value) (us : List Value), us.length = ps.length → bindArgs (PySem.W.fnOf x x (defArgs st) (defBody st) (defScope st) .none kV doc pm an cdv ct) ⟨us, []⟩ = pure (ps.zip us)) :
    Df K mg x st ps := by
  have F := fun_mk (st := st) l c k
  exact ⟨f, _, F, F.binds hb, PySem.W.mg_of X G a⟩
end OC
set_option Elab.async false
set_option linter.all false
set_option maxRecDepth 100000
namespace OC
open PySem PySem.Spec PyProof.Rows L2
/-! ### kinds of values -/
inductive Kd where
  | non | bl | int | str | lst | tup | dct
  deriving DecidableEq
def Kd.name : Kd → String
  | .non => "NoneType" | .bl => "bool" | .int => "int" | .str => "str" | .lst => "list" | .tup => "tuple" | .dct => "dict"
def KdOf (K : PySem.W.Frag) (H : Hp) (v : V) (k : Kd) : Prop := TyX K H v (.type k.name)
section
variable {K : PySem.W.Frag} {H : Hp}
theorem kd_int (i : Int) : KdOf K H (.int i) .int := .base (.int i)
theorem kd_bl (b : Bool) : KdOf K H (.bl b) .bl := .base (.bl b)
theorem kd_non : KdOf K H .non .non := .base .non
theorem kd_str (x : Str) : KdOf K H (.str x) .str := .base (.str x)
theorem kd_tup {a : Addr} {xs : List V} (h : SqT K H a xs) : KdOf K H (.ref a) .tup := by
  rcases h with (h | ⟨o, h⟩) | ⟨o, its, n, h, c, _⟩
  · exact .base (.tup h)
  · exact .fTuple h
  · exact .kTuple h c
theorem kd_lst {a : Addr} {xs : List V} (h : SqL K H a xs) : KdOf K H (.ref a) .lst := by
  rcases h with (h | ⟨o, h⟩) | ⟨o, its, n, h, c, _⟩
  · exact .base (.lst h)
  · exact .base (.frz h)
  · exact .kList h c
theorem kd_dct {a : Addr} {kvs : List (Key × V)} (h : H a = some (.dK kvs)) : KdOf K H (.ref a) .dct := .base (.dK h)
theorem kit_int (k : Kd) : PySem.W.kitOne K (.type k.name) (.type "int") = some (decide (k = .int) || decide (k = .bl)) := by
  cases k <;> exact kit_ty (by decide +kernel)
theorem kit_bool (k : Kd) : PySem.W.kitOne K (.type k.name) (.type "bool") = some (decide (k = .bl)) := by
  cases k <;> exact kit_ty (by decide +kernel)
theorem kit_tuple (k : Kd) : PySem.W.kitOne K (.type k.name) (.type "tuple") = some (decide (k = .tup)) := by
  cases k <;> exact kit_ty (by decide +kernel)
theorem kit_str (k : Kd) : PySem.W.kitOne K (.type k.name) (.type "str") = some (decide (k = .str)) := by
  cases k <;> exact kit_ty (by decide +kernel)
end
/-! ### heaps -/
theorem same_upd {H : Hp} {p : Addr} {o : HO} (h : H p = none) : Same H (upd H p o) := fun b x e => by
  rw [upd_ne (ne_of_none e h)]
  exact e
theorem same_mut {H H' : Hp} {p : Addr} {o : HO} (e : Same H H') (h : H p = none) : Same H (upd H' p o) := fun b x q => by
  rw [upd_ne (ne_of_none q h)]
  exact e b x q
theorem Same.tup {K : PySem.W.Frag} {H H' : Hp} {a : Addr} {xs : List V} (e : Same H H') (h : SqT K H a xs) : SqT K H' a xs := by
  rcases h with (h | ⟨o, h⟩) | h
  · exact .inl (.inl (e _ _ h))
  · exact .inl (.inr ⟨o, e _ _ h⟩)
  · exact .inr h
/-- all but the deck's two lists stays -/
def Kept (d c : Addr) (H H' : Hp) : Prop := ∀ b o, H b = some o → b ≠ d → b ≠ c → H' b = some o
theorem Kept.refl (d c : Addr) (H : Hp) : Kept d c H H := fun _ _ h _ _ => h
theorem Kept.trans {d c : Addr} {H H1 H2 : Hp} (a : Kept d c H H1) (b : Kept d c H1 H2) : Kept d c H H2 := fun x o h n m => b x o (a x o h n m) n m
theorem Kept.of {d c : Addr} {H H' : Hp} (a : Same H H') : Kept d c H H' := fun x o h _ _ => a x o h
/-- the deck: a list of the cells' list and the count of draws -/
structure Deck (H : Hp) (d c : Addr) (t : Int) : Prop where
  hd : H d = some (.lst [.ref c, .int t])
  hc : ∃ cells : List Int, H c = some (.lst (cells.map V.int)) ∧ (∀ x ∈ cells, 0 ≤ x) ∧ cells.length ≤ 63
  ne : c ≠ d
  t0 : 0 ≤ t
theorem Deck.same {H H' : Hp} {d c : Addr} {t : Int} (D : Deck H d c t) (s : Same H H') : Deck H' d c t := by
  obtain ⟨hd, ⟨cells, h1, h2⟩, n, t0⟩ := D
  exact ⟨s _ _ hd, ⟨cells, s _ _ h1, h2⟩, n, t0⟩
theorem Kept.tup {K : PySem.W.Frag} {d c : Addr} {t : Int} {H H' : Hp} {a : Addr} {xs : List V} (D : Deck H d c t) (e : Kept d c H H') (h : SqT K H a xs) : SqT K H' a xs := by
  obtain ⟨hd, ⟨cells, h1, h2⟩, n, t0⟩ := D
  rcases h with (h | ⟨o, h⟩) | h
  · exact .inl (.inl (e _ _ h (fun z => by subst z; rw [hd] at h; cases h) (fun z => by subst z; rw [h1] at h; cases h)))
  · exact .inl (.inr ⟨o, e _ _ h (fun z => by subst z; rw [hd] at h; cases h) (fun z => by subst z; rw [h1] at h; cases h)⟩)
  · exact .inr h
theorem at_int {xs : List Int} {z : Int} (h0 : 0 ≤ z) (h1 : z < (xs.length : Int)) : ∃ x, x ∈ xs ∧ xs[z.toNat]? = some x ∧ atI (xs.map V.int) z = some (.int x) := by
  have hl : z.toNat < xs.length := by omega
  refine ⟨xs[z.toNat], List.getElem_mem hl, List.getElem?_eq_getElem hl, ?_⟩
  refine at_of (j := z.toNat) (by omega) ?_
  rw [List.getElem?_map, List.getElem?_eq_getElem hl]
  rfl
theorem ix_nat {n : Nat} {z : Int} (h0 : 0 ≤ z) (h1 : z < (n : Int)) : ixN n z = some z.toNat := by
  unfold ixN
  rw [if_pos h0, if_pos h1]
theorem in_ints (i : Int) (xs : List Int) : inV (.int i) (xs.map V.int) = decide (i ∈ xs) := by
  unfold inV
  induction xs with
  | nil => simp
  | cons x r ih =>
    rw [List.map_cons, List.any_cons, ih]
    by_cases e : x = i
    · subst e; simp [eqV]
    · have : ¬ i = x := fun q => e q.symm
      simp [eqV, e, this]
end OC
set_option Elab.async false
set_option linter.all false
set_option maxRecDepth 100000
namespace OC
open PySem PySem.Spec PyProof.Rows L2
/-! ### readings by name -/
def rLenQ (K : PySem.W.Frag) : List V → Hp → VK → Prop := fun xs H Q => ∃ p ys, xs = [.ref p] ∧ (SqL K H p ys ∨ SqT K H p ys) ∧ Q (.int ys.length) H
/-! ### data kept -/
mutual
theorem dp_same {K : PySem.W.Frag} {H H' : Hp} (e : Same H H') : ∀ (d : PyData) (v : V), Dp K H v d → Dp K H' v d
  | .none, _, h => by cases h; exact .non
  | .bool b, _, h => by cases h; exact .bl b
  | .int i, _, h => by cases h; exact .int i
  | .str x, _, h => by cases h; exact .str x
  | .list ds, _, h => by
    cases h with
    | lst hs ha => exact .lst (e.seq hs) (dpAll_same e ds _ ha)
  | .tuple ds, _, h => by
    cases h with
    | tup hs ha => exact .tup (Same.tup e hs) (dpAll_same e ds _ ha)
  | .dict _, _, h => by cases h
theorem dpAll_same {K : PySem.W.Frag} {H H' : Hp} (e : Same H H') : ∀ (ds : List PyData) (vs : List V), DpAll K H vs ds → DpAll K H' vs ds
  | [], _, h => by cases h; exact .nil
  | d :: ds, _, h => by
    cases h with
    | cons h1 h2 => exact .cons (dp_same e d _ h1) (dpAll_same e ds _ h2)
end
theorem dpAll_len {K : PySem.W.Frag} {H : Hp} : ∀ {vs : List V} {ds : List PyData}, DpAll K H vs ds → vs.length = ds.length
  | _, _, .nil => rfl
  | _, _, .cons _ t => by rw [List.length_cons, List.length_cons, dpAll_len t]
theorem dpAll_get {K : PySem.W.Frag} {H : Hp} : ∀ {vs : List V} {ds : List PyData} {i : Nat} {v : V}, DpAll K H vs ds → vs[i]? = some v → ∃ d, ds[i]? = some d ∧ d ∈ ds ∧ Dp K H v d
  | _, _, i, v, .nil, e => by simp at e
  | _, _, 0, v, .cons h t, e => by
    have e : _ = v := Option.some.inj e
    subst e
    exact ⟨_, rfl, List.mem_cons_self, h⟩
  | _, _, i + 1, v, .cons h t, e => by
    obtain ⟨d, h1, h2, h3⟩ := dpAll_get (i := i) (v := v) t e
    exact ⟨d, h1, List.mem_cons_of_mem _ h2, h3⟩
theorem dpAll_ints {K : PySem.W.Frag} {H : Hp} : ∀ ns : List Int, DpAll K H (ns.map V.int) (ns.map PyData.int)
  | [] => .nil
  | n :: r => .cons (.int n) (dpAll_ints r)
/-! ### any thing, with dicts: its kind -/
def keyD : Key → PyData
  | .inl i => .int i
  | .inr x => .str x
def flD : V → PyData
  | .bl b => .bool b | .int i => .int i | .str x => .str x | _ => .none
def flOk : V → Bool
  | .non => true | .bl _ => true | .int _ => true | .str _ => true | _ => false
mutual
inductive Rep (K : PySem.W.Frag) (H : Hp) (bad : Addr → Prop) : V → PyData → Prop
  | non : Rep K H bad .non .none
  | bl (b : Bool) : Rep K H bad (.bl b) (.bool b)
  | int (i : Int) : Rep K H bad (.int i) (.int i)
  | str (x : Str) : Rep K H bad (.str x) (.str x)
  | lst {a : Addr} {xs : List V} {ds : List PyData} : H a = some (.lst xs) → ¬ bad a → RepAll K H bad xs ds → Rep K H bad (.ref a) (.list ds)
  | tup {a : Addr} {xs : List V} {ds : List PyData} : SqT K H a xs → RepAll K H bad xs ds → Rep K H bad (.ref a) (.tuple ds)
  | dct {a : Addr} {kvs : List (Key × V)} : H a = some (.dK kvs) → (kvs.all fun p => flOk p.2) = true → Rep K H bad (.ref a) (.dict (kvs.map fun p => (keyD p.1, flD p.2)))
inductive RepAll (K : PySem.W.Frag) (H : Hp) (bad : Addr → Prop) : List V → List PyData → Prop
  | nil : RepAll K H bad [] []
  | cons {v : V} {vs : List V} {d : PyData} {ds : List PyData} : Rep K H bad v d → RepAll K H bad vs ds → RepAll K H bad (v :: vs) (d :: ds)
end
def kdOf : PyData → Kd
  | .none => .non | .bool _ => .bl | .int _ => .int | .str _ => .str | .list _ => .lst | .tuple _ => .tup | .dict _ => .dct
section
variable {K : PySem.W.Frag} {H : Hp} {bad : Addr → Prop}
theorem Rep.kd : ∀ {v : V} {d : PyData}, Rep K H bad v d → KdOf K H v (kdOf d)
  | _, _, .non => kd_non
  | _, _, .bl b => kd_bl b
  | _, _, .int i => kd_int i
  | _, _, .str x => kd_str x
  | _, _, .lst h _ _ => kd_lst (.inl (.inl h))
  | _, _, .tup h _ => kd_tup h
  | _, _, .dct h _ => kd_dct h
theorem repAll_len : ∀ {vs : List V} {ds : List PyData}, RepAll K H bad vs ds → vs.length = ds.length
  | _, _, .nil => rfl
  | _, _, .cons _ t => by rw [List.length_cons, List.length_cons, repAll_len t]
theorem repAll_get : ∀ {vs : List V} {ds : List PyData} {i : Nat} {v : V}, RepAll K H bad vs ds → vs[i]? = some v → ∃ d, ds[i]? = some d ∧ d ∈ ds ∧ Rep K H bad v d
  | _, _, i, v, .nil, e => by simp at e
  | _, _, 0, v, .cons h t, e => by
    have e : _ = v := Option.some.inj e
    subst e
    exact ⟨_, rfl, List.mem_cons_self, h⟩
  | _, _, i + 1, v, .cons h t, e => by
    obtain ⟨d, h1, h2, h3⟩ := repAll_get (i := i) (v := v) t e
    exact ⟨d, h1, List.mem_cons_of_mem _ h2, h3⟩
theorem repAll_append : ∀ {xs ys : List V} {ds es : List PyData}, RepAll K H bad xs ds → RepAll K H bad ys es → RepAll K H bad (xs ++ ys) (ds ++ es)
  | _, _, _, _, .nil, h => h
  | _, _, _, _, .cons h t, g => .cons h (repAll_append t g)
theorem repAll_ints : ∀ ns : List Int, RepAll K H bad (ns.map V.int) (ns.map PyData.int)
  | [] => .nil
  | n :: r => .cons (.int n) (repAll_ints r)
end
/-! ### tuples stay -/
def Tk (H H' : Hp) : Prop := ∀ (K : PySem.W.Frag) (a : Addr) (xs : List V), SqT K H a xs → SqT K H' a xs
theorem Tk.refl (H : Hp) : Tk H H := fun _ _ _ h => h
theorem Tk.trans {H H1 H2 : Hp} (a : Tk H H1) (b : Tk H1 H2) : Tk H H2 := fun K x xs h => b K x xs (a K x xs h)
theorem Tk.of {H H' : Hp} (s : Same H H') : Tk H H' := fun _ _ _ h => Same.tup s h
theorem Tk.kept {d c : Addr} {t : Int} {H H' : Hp} (D : Deck H d c t) (k : Kept d c H H') : Tk H H' := fun _ _ _ h => Kept.tup D k h
theorem Tk.mut {H H' : Hp} {D : Addr} {xs ys : List V} (k : Tk H H') (h : H' D = some (.lst xs)) : Tk H (upd H' D (.lst ys)) := fun K a zs q => by
  rcases k K a zs q with (q | ⟨o, q⟩) | q
  · refine .inl (.inl ?_)
    rw [upd_ne (fun z => by subst z; rw [h] at q; cases q)]
    exact q
  · refine .inl (.inr ⟨o, ?_⟩)
    rw [upd_ne (fun z => by subst z; rw [h] at q; cases q)]
    exact q
  · exact .inr q
theorem Tk.new {H H' : Hp} {D : Addr} {o : HO} (k : Tk H H') (h : H' D = none) : Tk H (upd H' D o) := k.trans (Tk.of (same_upd h))
/-- what stays of things: tuples and dicts all, lists but the bad ones -/
structure Stays (bad : Addr → Prop) (H H' : Hp) : Prop where
  t : Tk H H'
  d : ∀ a kvs, H a = some (.dK kvs) → H' a = some (.dK kvs)
  l : ∀ a xs, H a = some (.lst xs) → ¬ bad a → H' a = some (.lst xs)
theorem Stays.of {bad : Addr → Prop} {H H' : Hp} (s : Same H H') : Stays bad H H' := ⟨Tk.of s, fun _ _ h => s _ _ h, fun _ _ h _ => s _ _ h⟩
theorem Stays.trans {bad : Addr → Prop} {H H1 H2 : Hp} (a : Stays bad H H1) (b : Stays bad H1 H2) : Stays bad H H2 := ⟨a.t.trans b.t, fun x y h => b.d x y (a.d x y h), fun x y h n => b.l x y (a.l x y h n) n⟩
theorem Stays.kept {d c : Addr} {t : Int} {H H' : Hp} (D : Deck H d c t) (k : Kept d c H H') : Stays (fun a => a = d ∨ a = c) H H' := by
  refine ⟨Tk.kept D k, fun a xs h => k a _ h (fun z => ?_) (fun z => ?_), fun a xs h nb => k a _ h (fun z => nb (.inl z)) (fun z => nb (.inr z))⟩
  · subst z; rw [D.hd] at h; cases h
  · obtain ⟨cells, h1, _⟩ := D.hc
    subst z; rw [h1] at h; cases h
mutual
theorem rep_stays {K : PySem.W.Frag} {bad : Addr → Prop} {H H' : Hp} (e : Stays bad H H') : ∀ (d : PyData) (v : V), Rep K H bad v d → Rep K H' bad v d
  | .none, _, h => by cases h; exact .non
  | .bool b, _, h => by cases h; exact .bl b
  | .int i, _, h => by cases h; exact .int i
  | .str x, _, h => by cases h; exact .str x
  | .list ds, _, h => by
    cases h with
    | lst hs hb ha => exact .lst (e.l _ _ hs hb) hb (repAll_stays e ds _ ha)
  | .tuple ds, _, h => by
    cases h with
    | tup hs ha => exact .tup (e.t _ _ _ hs) (repAll_stays e ds _ ha)
  | .dict _, _, h => by
    cases h with
    | dct hs hf => exact .dct (e.d _ _ hs) hf
theorem repAll_stays {K : PySem.W.Frag} {bad : Addr → Prop} {H H' : Hp} (e : Stays bad H H') : ∀ (ds : List PyData) (vs : List V), RepAll K H bad vs ds → RepAll K H' bad vs ds
  | [], _, h => by cases h; exact .nil
  | d :: ds, _, h => by
    cases h with
    | cons h1 h2 => exact .cons (rep_stays e d _ h1) (repAll_stays e ds _ h2)
end
/-! ### zip of two tuples, walked -/
theorem walk_zipT {K : PySem.W.Frag} {a b : Addr} {xs ys : List V} {n : Nat} (hn : n = min xs.length ys.length) : Walk (RZ.ItzT K a b) n (fun H => SqT K H a xs ∧ SqT K H b ys) (YPair (fun i => xs[i]?) (fun i => ys[i]?)) where
  goes i H hi q := by
    have hx : i < xs.length := by rw [hn] at hi; exact Nat.lt_of_lt_of_le hi (Nat.min_le_left _ _)
    have hy : i < ys.length := by rw [hn] at hi; exact Nat.lt_of_lt_of_le hi (Nat.min_le_right _ _)
    exact ⟨xs, ys, _, _, q.1, q.2, List.getElem?_eq_getElem hx, List.getElem?_eq_getElem hy⟩
  stops H q := ⟨xs, ys, q.1, q.2, by rw [hn]; omega⟩
  yields i H v H' _ q y := by
    obtain ⟨T, x, z, ev, nT, eH, gx, gz⟩ := y
    exact ⟨T, x, z, ev, nT, eH, gx xs q.1, gz ys q.2⟩
/-! ### the same: two things of one data -/
end OC
set_option Elab.async false
set_option linter.all false
set_option maxRecDepth 100000
set_option maxHeartbeats 2000000
namespace OC
open PySem PySem.Spec PyProof.Rows L2
/-! ### a tuple taken once is itself -/
theorem tuple_mul1 (l : Addr) (its : Array Value) (m : Nat) (od : Option Addr) (so : Array (Option Value)) (u : Tok) :
    Meets (Builtin.«tuple.__mul__» ⟨[.ref l, .int 1 u], []⟩) (fun _ R s => s.heap.get? l = some { cls := .type "tuple", dict := od, data := .seq its m, slots := so } ∧ R (.ok (.ret (Value.ref l))) s) := by
  refine .of_wp fun prog w A R s hh => ?_
  obtain ⟨hp, g, d, tk, os⟩ := s
  obtain ⟨hl, hR⟩ := hh
  have fi := AutoSeq1.idx_int
  have c0 : (decide ((1 : Int) < -(2 ^ 63)) || decide ((1 : Int) ≥ 2 ^ 63)) = false := by decide
  have c1 : (its.isEmpty || (1 : Int) == 1) = true := by simp
  wp_walk using wpAny_loadPart' hl
  exact ⟨_, rfl, hR⟩
/-- t * n: a new tuple, or for n = 1 the same -/
def rRepA (K : PySem.W.Frag) : R2 := fun x y H Q => ∃ l k xs, x = .ref l ∧ y = .int k ∧ SqT K H l xs ∧ xs ≠ [] ∧ 1 ≤ k ∧ k ≤ 1000 ∧ xs.length ≤ 1000 ∧ (k = 1 → Q (.ref l) H) ∧ (2 ≤ k → ∀ p, H p = none → Q (.ref p) (upd H p (.tup (List.replicate k.toNat xs).flatten)))
theorem op_repA {X : Cx} : OpR X (binaryOp .Mult) (rRepA X.K) := by
  intro pins s σ H x y v u Q I rx ry h
  obtain ⟨l, k, xs, ex, ey, hT, hne, h1, h2, hz, q1, q2⟩ := h
  by_cases hk : k = 1
  · subst hk ex ey
    have q := q1 rfl
    cases rx
    obtain ⟨t, rfl⟩ := ry
    obtain ⟨its, r, ⟨⟨cls, dd, data, sl⟩, ho, hc, n, hd⟩, hs⟩ := I.tuple hT
    simp only at hc hd
    subst hc hd
    refine wpAny_binaryOp_repeat_ref (T := "tuple") (U := "int") (by decide) ⟨_, ho, rfl⟩ (fun s' => typeIs_int s' 1 t) noFill_tuple_mul F.fills_int_mul F.slot_int_rmul repeat_tuple F.slot_int_index.lookup ?_
    refine call_meets F.slot_int_rmul (typeIs_int s 1 t) F.entry_int_rmul (F.args_int_rmul_2 _ _) (int_rmul_tuple 1 t l its.toArray n dd sl) ⟨ho, rfl, ⟨_, ho, rfl⟩, ?_⟩
    exact call_meets F.slot_tuple_mul ⟨_, ho, rfl⟩ F.entry_tuple_mul (F.args_tuple_mul_2 _ _) (tuple_mul1 l its.toArray n dd sl t) ⟨ho, .ref l, H, I, rfl, q⟩
  · exact op_repT pins s σ H x y v u Q I rx ry ⟨l, k, xs, ex, ey, hT, hne, by omega, h2, hz, q2 (by omega)⟩
/-- the same, whichever tuple it is -/
def rRepB (K : PySem.W.Frag) : R2 := fun x y H Q => ∃ l k xs, x = .ref l ∧ y = .int k ∧ SqT K H l xs ∧ xs ≠ [] ∧ 1 ≤ k ∧ k ≤ 1000 ∧ xs.length ≤ 1000 ∧ ∀ p H', Same H H' → SqT K H' p (List.replicate k.toNat xs).flatten → Q (.ref p) H'
theorem op_repB {X : Cx} : OpR X (binaryOp .Mult) (rRepB X.K) := by
  intro pins s σ H x y v u Q I rx ry h
  obtain ⟨l, k, xs, ex, ey, hT, hne, h1, h2, hz, q⟩ := h
  refine op_repA pins s σ H x y v u Q I rx ry ⟨l, k, xs, ex, ey, hT, hne, h1, h2, hz, fun hk => q l H (Same.refl H) ?_, fun _ p np => q p _ (same_upd np) (.inl (.inl upd_same))⟩
  subst hk
  rw [show ((1 : Int).toNat) = 1 from rfl, List.replicate_one, List.flatten_cons, List.flatten_nil, List.append_nil]
  exact hT
theorem rep_int (n : Nat) (x : Int) : (List.replicate n [V.int x]).flatten = (List.replicate n x).map V.int := by
  induction n with
  | zero => rfl
  | succ n ih => rw [List.replicate_succ, List.flatten_cons, ih, List.replicate_succ]; rfl
end OC
set_option Elab.async false
set_option linter.all false
set_option maxRecDepth 100000
namespace OC
open PySem PySem.Spec PyProof.Rows L2
theorem new_of {H H' : Hp} {p : Addr} {o : HO} (h : upd H p o = H') (n : H p = none) : Same H H' ∧ H' p = some o := by
  subst h
  exact ⟨same_upd n, upd_same⟩
/-- a name that holds a list or a tuple, walked while G' holds -/
def iSeqV (K : PySem.W.Frag) (i : Nat) : TI := fun σ H R => ∃ (a : Addr) (xs : List V) (G' : Hp → Prop), σ[i]? = some (some (.ref a)) ∧ G' H ∧ ((∀ H', G' H' → SqL K H' a xs) ∨ (∀ H', G' H' → SqT K H' a xs)) ∧ ∀ J, Walk J xs.length G' (YAt xs) → R J H
theorem pi_seqv {X : Cx} {tg : Expr} {x : Str} {pos : Pos} (i : Nat) (he : PE X (.Name x pos) (tVar i)) : PI X tg (.Name x pos) (iSeqV X.K i) := by
  refine ⟨fun pins s σ H R I h => ?_⟩
  obtain ⟨a, xs, G', hs, hg, hq, r⟩ := h
  rcases hq with hq | hq
  · exact (pi_list he).run pins s σ H R I ⟨.ref a, hs, a, rfl, ⟨xs, hq H hg⟩, r _ (walk_list.mono hq fun _ _ _ _ _ _ y => y)⟩
  · exact (pi_tup he).run pins s σ H R I ⟨.ref a, hs, a, rfl, ⟨xs, hq H hg⟩, r _ (walk_tup.mono hq fun _ _ _ _ _ _ y => y)⟩
theorem sz1000 {n : Nat} (h : n ≤ 1000) : n ≤ sizeLine := Nat.le_of_lt (small1000 h)
mutual
def noL : PyData → Bool
  | .none => true | .bool _ => true | .int _ => true | .str _ => true | .list _ => false | .tuple ds => noLAll ds | .dict _ => false
def noLAll : List PyData → Bool
  | [] => true
  | d :: ds => noL d && noLAll ds
end
mutual
theorem dp_tk {K : PySem.W.Frag} {H H' : Hp} (e : Tk H H') : ∀ (d : PyData) (v : V), noL d = true → Dp K H v d → Dp K H' v d
  | .none, _, _, h => by cases h; exact .non
  | .bool b, _, _, h => by cases h; exact .bl b
  | .int i, _, _, h => by cases h; exact .int i
  | .str x, _, _, h => by cases h; exact .str x
  | .list ds, _, n, h => by simp [noL] at n
  | .tuple ds, _, n, h => by
    cases h with
    | tup hs ha => exact .tup (e K _ _ hs) (dpAll_tk e ds _ (by simpa [noL] using n) ha)
  | .dict _, _, _, h => by cases h
theorem dpAll_tk {K : PySem.W.Frag} {H H' : Hp} (e : Tk H H') : ∀ (ds : List PyData) (vs : List V), noLAll ds = true → DpAll K H vs ds → DpAll K H' vs ds
  | [], _, _, h => by cases h; exact .nil
  | d :: ds, _, n, h => by
    have n' : noL d = true ∧ noLAll ds = true := by simpa [noLAll] using n
    cases h with
    | cons h1 h2 => exact .cons (dp_tk e d _ n'.1 h1) (dpAll_tk e ds _ n'.2 h2)
end
/-! ### rows as data -/
def rowD (r : List Int) : PyData := .tuple (r.map PyData.int)
theorem noL_ints : ∀ r : List Int, noLAll (r.map PyData.int) = true
  | [] => by simp [noLAll]
  | n :: r => by simp [noLAll, noL, noL_ints r]
theorem noL_row (r : List Int) : noL (rowD r) = true := by
  unfold rowD
  rw [noL]
  exact noL_ints r
theorem noL_rows : ∀ rs : List (List Int), noLAll (rs.map rowD) = true
  | [] => by simp [noLAll]
  | r :: rs => by simp [noLAll, noL_row, noL_rows rs]
theorem lay_ints : ∀ ns : List Int, PyData.canLayAll0 (ns.map PyData.int) = true
  | [] => by simp only [List.map_nil, PyData.canLayAll0]
  | n :: r => by simp only [List.map_cons, PyData.canLayAll0, PyData.canLay0, lay_ints r, Bool.and_self]
theorem depth_ints : ∀ ns : List Int, PyData.depthAll (ns.map PyData.int) = 0
  | [] => by simp only [List.map_nil, PyData.depthAll]
  | n :: r => by simp only [List.map_cons, PyData.depthAll, PyData.depth, depth_ints r, Nat.max_self]
theorem lay_rows : ∀ rs : List (List Int), PyData.canLayAll0 (rs.map rowD) = true
  | [] => by simp only [List.map_nil, PyData.canLayAll0]
  | r :: rs => by simp only [List.map_cons, PyData.canLayAll0, rowD, PyData.canLay0, lay_ints r, lay_rows rs, Bool.and_self]
theorem depth_rows : ∀ rs : List (List Int), PyData.depthAll (rs.map rowD) ≤ 1
  | [] => by simp only [List.map_nil, PyData.depthAll]; omega
  | r :: rs => by
    have := depth_rows rs
    simp only [List.map_cons, PyData.depthAll, rowD, PyData.depth, depth_ints r]
    omega
theorem shaped_lrows (rs : List (List Int)) : SeqAt.shaped (.list (rs.map rowD)) = true := by
  unfold SeqAt.shaped
  have := depth_rows rs
  simp only [PyData.canLay0, lay_rows, PyData.depth, Bool.true_and]
  exact decide_eq_true (by omega)
theorem eqv_nil (ds : List PyData) : PyData.eqv (.list ds) (.list []) = decide (ds = []) := by
  cases ds with
  | nil => simp [PyData.eqv, PyData.eqvAll]
  | cons n r => simp [PyData.eqv, PyData.eqvAll]
theorem dpAll_int_inv {K : PySem.W.Frag} {H : Hp} : ∀ {xs : List V} {r : List Int}, DpAll K H xs (r.map PyData.int) → xs = r.map V.int
  | _, [], h => by cases h; rfl
  | _, n :: r, h => by
    cases h with
    | cons h1 h2 =>
      cases h1
      rw [dpAll_int_inv h2]
      rfl
theorem dp_row {K : PySem.W.Frag} {H : Hp} {v : V} {r : List Int} (h : Dp K H v (rowD r)) : ∃ a, v = .ref a ∧ SqT K H a (r.map V.int) := by
  unfold rowD at h
  cases h with
  | tup hs ha => exact ⟨_, rfl, (dpAll_int_inv ha) ▸ hs⟩
theorem row_dp {K : PySem.W.Frag} {H : Hp} {a : Addr} {r : List Int} (h : SqT K H a (r.map V.int)) : Dp K H (.ref a) (rowD r) := .tup h (dpAll_ints r)
theorem dpAll_append {K : PySem.W.Frag} {H : Hp} : ∀ {xs ys : List V} {ds es : List PyData}, DpAll K H xs ds → DpAll K H ys es → DpAll K H (xs ++ ys) (ds ++ es)
  | _, _, _, _, .nil, h => h
  | _, _, _, _, .cons h t, g => .cons h (dpAll_append t g)
theorem dpAll_row {K : PySem.W.Frag} {H : Hp} {vs : List V} {rs : List (List Int)} {i : Nat} {v : V} (h : DpAll K H vs (rs.map rowD)) (e : vs[i]? = some v) : ∃ a r, v = .ref a ∧ rs[i]? = some r ∧ r ∈ rs ∧ SqT K H a (r.map V.int) := by
  obtain ⟨d, g, _, hd⟩ := dpAll_get h e
  rw [List.getElem?_map] at g
  cases hr : rs[i]? with
  | none => rw [hr] at g; cases g
  | some r =>
    rw [hr] at g
    have ed : d = rowD r := (Option.some.inj g).symm
    subst ed
    obtain ⟨a, rfl, ha⟩ := dp_row hd
    exact ⟨a, r, rfl, rfl, List.mem_of_getElem? hr, ha⟩
/-- rests below p -/
def RowOk (p : Int) (r : List Int) : Prop := ∀ x ∈ r, 0 ≤ x ∧ x < p
/-! ### comprehensions of ints -/
def LcGoal (J : It) (g : TG) (tt : TT) (te : TE) (vs : List Nat) (σ : L2.St) (H : Hp) (Qd : Addr → Hp → Prop) : Prop := ∀ D, H D = none → ∃ W : Nat → Nat → Hp → Prop, (∃ m, W 0 m (upd H D (.lst []))) ∧ ∀ i m H, W i m H →
  (J.stop i H ∧ Qd D H) ∨ (J.go i H ∧ ∃ Nx : Hp → Prop, (∀ H', Nx H' → ∃ m', m' < m ∧ W (i + 1) m' H') ∧ ∀ x H', J.yld i H x H' → g x (wipe σ vs) H' fun σ2 H2 => wipe σ2 vs = wipe σ vs ∧ tt σ2 H2 fun b H3 =>
    if b = true then te σ2 H3 fun y H4 => ∃ acc, H4 D = some (.lst acc) ∧ acc.length < sizeLine ∧ Nx (upd H4 D (.lst (acc ++ [y]))) else Nx H3)
theorem lc_zipI {K : PySem.W.Frag} {a b : Addr} {xs ys : List Int} {σ : L2.St} {H : Hp} {Qd : Addr → Hp → Prop} {i j : Nat} {vs : List Nat} {te : TE} (f : Int → Int → Int) (hA : SqT K H a (xs.map V.int)) (hB : SqT K H b (ys.map V.int)) (hz : xs.length ≤ 1000)
    (hw : ∀ x y : Option V, wipe (((wipe σ vs).set i x).set j y) vs = wipe σ vs)
    (hte : ∀ (x y : Int) (H' : Hp) (Q' : VK), x ∈ xs → y ∈ ys → Same H H' → Q' (.int (f x y)) H' → te (((wipe σ vs).set i (some (.int x))).set j (some (.int y))) H' Q')
    (hd : ∀ D H', Same H H' → H D = none → H' D = some (.lst ((List.zipWith f xs ys).map V.int)) → Qd D H') :
    LcGoal (RZ.ItzT K a b) (gTup K 2 (gCons (gName i) (gCons (gName j) gNil))) tYes te vs σ H Qd := by
  intro D nD
  refine lc_it (walk_zipT (K := K) (a := a) (b := b) (xs := xs.map V.int) (ys := ys.map V.int) rfl) (fun k H' => Same H H' ∧ H' D = some (.lst (((List.zipWith f xs ys).take k).map V.int))) ⟨same_mut (Same.refl H) nD, upd_same⟩ (fun k H' _ hP => ⟨Same.tup hP.1 hA, Same.tup hP.1 hB⟩) (fun k x H1 H2 hk hP hY => ?_) (fun H' hP => hd D H' hP.1 nD ?_)
  · obtain ⟨Ta, x1, y1, rfl, nT, rfl, e1, e2⟩ := hY
    obtain ⟨sm, eD⟩ := hP
    have sT : Same H1 (upd H1 Ta (.tup [x1, y1])) := same_upd nT
    have e1 : (xs.map V.int)[k]? = some x1 := e1
    have e2 : (ys.map V.int)[k]? = some y1 := e2
    rw [List.getElem?_map] at e1 e2
    cases h1 : xs[k]? with
    | none => rw [h1] at e1; cases e1
    | some z1 =>
      cases h2 : ys[k]? with
      | none => rw [h2] at e2; cases e2
      | some z2 =>
        rw [h1] at e1
        rw [h2] at e2
        have q1 : x1 = V.int z1 := (Option.some.inj e1).symm
        have q2 : y1 = V.int z2 := (Option.some.inj e2).symm
        subst q1 q2
        refine ⟨Ta, [.int z1, .int z2], rfl, .inl (.inl upd_same), rfl, .int z1, [.int z2], rfl, .int z2, [], rfl, rfl, hw _ _, ?_⟩
        refine hte z1 z2 _ _ (List.mem_of_getElem? h1) (List.mem_of_getElem? h2) (sm.trans sT) ⟨_, sT _ _ eD, ?_, same_mut (sm.trans sT) nD, ?_⟩
        · rw [List.length_map, List.length_take, List.length_zipWith]
          exact small1000 (by omega)
        · rw [upd_same, List.take_add_one, List.getElem?_zipWith, h1, h2, List.map_append]
          rfl
  · obtain ⟨sm, eD⟩ := hP
    rw [eD, List.take_of_length_le]
    rw [List.length_zipWith, List.length_map, List.length_map]
    exact Nat.le_refl _
theorem lc_tupI {K : PySem.W.Frag} {a : Addr} {xs : List Int} {σ : L2.St} {H : Hp} {Qd : Addr → Hp → Prop} {i : Nat} {vs : List Nat} {te : TE} (f : Int → Int) (hA : SqT K H a (xs.map V.int)) (hz : xs.length ≤ 1000)
    (hw : ∀ x : Option V, wipe ((wipe σ vs).set i x) vs = wipe σ vs)
    (hte : ∀ (x : Int) (H' : Hp) (Q' : VK), x ∈ xs → Same H H' → Q' (.int (f x)) H' → te ((wipe σ vs).set i (some (.int x))) H' Q')
    (hd : ∀ D H', Same H H' → H D = none → H' D = some (.lst ((xs.map f).map V.int)) → Qd D H') :
    LcGoal (Itt K a) (gName i) tYes te vs σ H Qd := by
  intro D nD
  refine lc_it (walk_tup (K := K) (a := a) (xs := xs.map V.int)) (fun k H' => Same H H' ∧ H' D = some (.lst (((xs.map f).take k).map V.int))) ⟨same_mut (Same.refl H) nD, upd_same⟩ (fun k H' _ hP => Same.tup hP.1 hA) (fun k x H1 H2 hk hP hY => ?_) (fun H' hP => hd D H' hP.1 nD ?_)
  · obtain ⟨rfl, e1⟩ := hY
    obtain ⟨sm, eD⟩ := hP
    rw [List.getElem?_map] at e1
    cases h1 : xs[k]? with
    | none => rw [h1] at e1; cases e1
    | some z1 =>
      rw [h1] at e1
      have q1 : x = V.int z1 := (Option.some.inj e1).symm
      subst q1
      refine ⟨hw _, hte z1 _ _ (List.mem_of_getElem? h1) sm ⟨_, eD, ?_, same_mut sm nD, ?_⟩⟩
      · rw [List.length_map, List.length_take, List.length_map]
        exact small1000 (by omega)
      · rw [upd_same, List.take_add_one, List.getElem?_map, h1, List.map_append]
        rfl
  · obtain ⟨sm, eD⟩ := hP
    rw [eD, List.take_of_length_le]
    rw [List.length_map, List.length_map]
    exact Nat.le_refl _
end OC
set_option Elab.async false
set_option linter.all false
set_option maxRecDepth 100000
set_option maxHeartbeats 2000000
/-! defs that are called while no repr is under way (A.guards = some []): the layer's promise with that one fact more -/
namespace OC
open PySem PySem.Spec PyProof.Rows L2
structure FnG (P : Program) (w : World) (K : PySem.W.Frag) (mg : Str → Option Value) (base : Heap) (CX : CXT) (k : Nat)
    (f : Addr) (fd : FuncData) (ps : List Str) (sp : Sp) : Prop where
  len : ∀ vs H Q E, sp vs H Q E → vs.length = ps.length
  go : ∀ (A : Around) (outer : List Env) (s : Shared) (H : Hp) (args : Args) (us : List Value) (vs : List V) (Q : VK) (E : XK),
    Room k A → A.guards = some [] → Env0 P w K mg base A outer s H → BindsTo s fd args (ps.zip us) → Vals vs us → sp vs H Q E →
    codeAny (model P w) A (.call (.ref f) args) (CR CX outer P w H s Q E) s
section
variable {P : Program} {w : World} {K : PySem.W.Frag} {mg : Str → Option Value} {base : Heap} {CX : CXT} {k : Nat} {f : Addr} {fd : FuncData} {ps : List Str} {sp : Sp}
theorem FnG.of (F : FnOk P w K mg base CX k f fd ps sp) : FnG P w K mg base CX k f fd ps sp :=
  ⟨F.len, fun A outer s H args us vs Q E hr _ => F.run A outer s H args us vs Q E hr⟩
theorem FnG.mono {j : Nat} (F : FnG P w K mg base CX j f fd ps sp) (h : j ≤ k) : FnG P w K mg base CX k f fd ps sp :=
  ⟨F.len, fun A outer s H args us vs Q E hr => F.go A outer s H args us vs Q E (hr.mono h)⟩
end
/-- from the body, where no repr is under way -/
theorem fnG_of {CX : CXT} {P : Program} {w : World} {K : PySem.W.Frag} {mg : Str → Option Value} {base : Heap} {k : Nat} {f : Addr}
    {nm ql : Str} {pr : Arguments} {bd : List Stmt} {sc : Scope} {dV kV doc pm cdv ct oc : Value} {an od : Option Addr}
    {osl : Array (Option Value)} {N ps : List Str} {sp : Sp}
    (lk : K.lookup f = some ⟨oc, od, .func (PySem.W.fnOf nm ql pr bd sc dV kV doc pm an cdv ct), osl⟩)
    (hcd : PySem.W.codeIn K cdv ql = true) (S : FnScope N ps sc)
    (len : ∀ vs H Q E, sp vs H Q E → vs.length = ps.length)
    (hbody : ∀ (A : Around) (outer : List Env) (s : Shared) (H : Hp) (vs : List V) (Q : VK) (E : XK),
      Room k (A.deeper (envOfC ql sc s.heap.objs.size f cdv)) → A.guards = some [] → sp vs H Q E →
      ∃ t, PSs (cxOf CX P w K mg base N ql sc f cdv A outer s H E) bd t ∧ t { nx := fun _ H' => Q .non H', rt := Q } (start N vs) H) :
    FnG P w K mg base CX (k + 1) f (PySem.W.fnOf nm ql pr bd sc dV kV doc pm an cdv ct) ps sp where
  len := len
  go A outer s H args us vs Q E hr hgd e0 hb r hsp := by
    have same : ∀ b o, base.get? b = some o → s.heap.get? b = some o := fun b o e => (e0.bs b o e).1
    have inK : K.In s.heap := e0.mod.kin.keeps same
    have noLim : s.heap.NoLimit := e0.mod.nolimit.keeps same
    have kinds : ∀ y ∈ ps.zip us, sc.names.lookup y.1 = some .local ∨
        (sc.names.lookup y.1 = some .cell ∧ ((cellsFrom (s.heap.objs.size + 1) sc.names []).lookup y.1).isSome = true) := by
      rintro ⟨n, v⟩ hy
      exact (S.par n (List.of_mem_zip hy).1).imp id fun q => ⟨q, PySem.W.cellsFrom_some _ _ _ (.inl q)⟩
    apply codeAny_call_function hr.depth (inK _ _ lk) rfl S.co S.gen rfl (PySem.W.codeRec_of inK hcd)
    apply hb
    apply wpAny_newFunctionEnv_cells S.kind kinds
    intro env he s1 x
    cases he
    refine ⟨noLim.keeps x.toInCall.keep, codeAny_func ?_⟩
    obtain ⟨t, ht, hq⟩ := hbody A outer s H vs Q E (hr.deeper _) hgd hsp
    have I0 := inv_start (CX := CX) (P := P) (w := w) (E := E) S hr.hd e0 (len _ _ _ _ hsp) r x
    have ran := ht.run [] s1 (start N vs) H _ I0 hq
    apply wpAny_mono ran
    · intro fl s' hs
      rcases fl with _ | _ | _ | u
      all_goals first
        | (obtain ⟨v, σ', H', J, rv, q⟩ := hs; exact ⟨v, H', J.os, J.bare, J.base, J.hok, rv, q⟩)
        | (obtain ⟨σ', H', J, q⟩ := hs; exact ⟨V.non, H', J.os, J.bare, J.base, J.hok, rfl, q⟩)
        | (obtain ⟨_, _, _, q⟩ := hs; exact q.elim)
    · exact fun e s' hs => hs
section
variable {X : Cx} {CX : CXT} {k : Nat} {f : Addr} {fd : FuncData} {ps : List Str} {sp : Sp} {E : XK}
theorem runG {pins : List (Addr × Obj)} {σ : L2.St} {H : Hp} {s : Shared} {Q : VK} {us : List Value} {vs : List V}
    (F : FnG X.prog X.w X.K X.mg X.base CX k f fd ps sp) (hr : Room k X.A) (hgd : X.A.guards = some []) (hb : Binds X.K fd ps []) (hx : Passes CX X E)
    (I : Inv X pins σ H s) (r : Vals vs us) (h : sp vs H Q E) : wpAny (model X.prog X.w) X.A (call (.ref f) us) (EP X pins σ Q) X.xe s := by
  have hl : us.length = ps.length := r.length.symm.trans (F.len _ _ _ _ h)
  have hb' := hb s us I.kIn (by rw [List.append_nil]; exact hl)
  rw [List.append_nil] at hb'
  have run := F.go X.A X.stack s H ⟨us, []⟩ us vs Q E hr hgd I.env0 hb' r h
  apply wpAny_call
  apply codeAny_mono run
  intro res s' hq
  rcases res with e | fl
  · exact hx pins σ H s e s' I hq
  · rcases fl with _ | _ | _ | u
    all_goals first
      | exact I.after hq
      | exact (show False from hq).elim
end
/-! ### by name -/
structure OkG (P : Program) (w : World) (K : PySem.W.Frag) (mg : Str → Option Value) (base : Heap) (k : Nat) (x : Str) (ps : List Str) (sp : Sp) : Prop where
  ex : ∃ (f : Addr) (fd : FuncData), FnG P w K mg base CX0 k f fd ps sp ∧ mg x = some (.ref f) ∧ PySem.W.keepIn K (.ref f) = true ∧ Binds K fd ps []
section
variable {P : Program} {w : World} {K : PySem.W.Frag} {mg : Str → Option Value} {base : Heap}
theorem funG {x : Str} {st : Stmt} {f : Addr} {fd : FuncData} {N ps : List Str} {k : Nat} {sp : Sp} (F : Fun K x x st f fd) (S : FnScope N ps (defScope st)) (len : ∀ vs H Q E, sp vs H Q E → vs.length = ps.length)
    (hbody : ∀ (cdv : Value) (A : Around) (outer : List Env) (s : Shared) (H : Hp) (vs : List V) (Q : VK) (E : XK), Room k (A.deeper (envOfC x (defScope st) s.heap.objs.size f cdv)) → A.guards = some [] → sp vs H Q E →
      ∃ t, PSs (cxOf CX0 P w K mg base N x (defScope st) f cdv A outer s H E).nox (defBody st) t ∧ t { nx := fun _ H' => Q .non H', rt := Q } (start N vs) H) : FnG P w K mg base CX0 (k + 1) f fd ps sp := by
  obtain ⟨oc, od, kV, doc, pm, an, cdv, ct, osl, rfl, lk, hcd⟩ := F.ex
  refine fnG_of lk hcd S len ?_
  intro A outer s H vs Q E hr hgd hsp
  obtain ⟨t, h, q⟩ := hbody cdv A outer s H vs Q E hr hgd hsp
  exact ⟨t, h.nox, q⟩
theorem Df.okG {x : Str} {st : Stmt} {N ps : List Str} {k : Nat} {sp : Sp} (D : Df K mg x st ps) (S : FnScope N ps (defScope st)) (len : ∀ vs H Q E, sp vs H Q E → vs.length = ps.length)
    (hbody : ∀ (f : Addr) (cdv : Value) (A : Around) (outer : List Env) (s : Shared) (H : Hp) (vs : List V) (Q : VK) (E : XK), Room k (A.deeper (envOfC x (defScope st) s.heap.objs.size f cdv)) → A.guards = some [] → sp vs H Q E →
      ∃ t, PSs (cxOf CX0 P w K mg base N x (defScope st) f cdv A outer s H E).nox (defBody st) t ∧ t { nx := fun _ H' => Q .non H', rt := Q } (start N vs) H) : OkG P w K mg base (k + 1) x ps sp := by
  obtain ⟨f, fd, F, b, g⟩ := D.ex
  exact ⟨f, fd, funG F S len (hbody f), g, F.kp, b⟩
end
section
variable {X : Cx} {x : Str} {ps : List Str} {k : Nat} {sp : Sp}
theorem pe_callG {e : Expr} {es : List Expr} {t : TA} {p pos : Pos} (O : OkG X.prog X.w X.K X.mg X.base k x ps sp) (hr : Room k X.A) (hgd : X.A.guards = some []) (hg : Gl X x) (ha : PA X (e :: es) t) (hdb : (x == ("__debug__" : Str)) = false := by decide)
    (he : starEach (e :: es) X.env = (false, eval e X.env) :: starEach es X.env := by rfl) (hpl : (backTo pos (starEach es X.env)).any (·.1) = false := by rfl) :
    PE X (.Call (.Name x p) (e :: es) [] pos) (fun σ H Q => t σ H fun vs H1 => sp vs H1 Q E0) := by
  obtain ⟨f, fd, F, g, kp, b⟩ := O.ex
  constructor
  intro pins s σ H Q I h
  apply wpAny_Call_Name_kw
  apply ld_glob I hg g _ hdb
  apply PySem.W.callWith_K (h₀ := X.base) I.ok.mod.kin kp _ he hpl
  apply thn (ha.run pos pins s σ H _ I h)
  rintro us s1 ⟨vs, H1, I1, r, q⟩
  exact ⟨I1.kIn, runG F hr hgd b pass0 I1 r q⟩
end
end OC
set_option Elab.async false
set_option linter.all false
set_option maxRecDepth 100000
set_option maxHeartbeats 2000000
set_option Elab.async false
set_option linter.all false
set_option maxRecDepth 100000
set_option maxHeartbeats 2000000
/-! t[::-1] of a tuple -/
set_option Elab.async false
set_option linter.all false
set_option maxRecDepth 100000
set_option maxHeartbeats 2000000
/-! repr of things, where no repr is under way -/
namespace OC
open PySem PySem.Spec PyProof.Rows L2
mutual
def lstless : PyData → Bool
  | .none => true | .bool _ => true | .int _ => true | .str _ => true | .list _ => false | .tuple ds => lstlessAll ds | .dict _ => true
def lstlessAll : List PyData → Bool
  | [] => true
  | d :: ds => lstless d && lstlessAll ds
end
section
variable {X : Cx} {pins : List (Addr × Obj)} {σ : L2.St} {H : Hp} {s : Shared} {bad : Addr → Prop}
theorem reads_key {h : Heap} {k : Key} {u : Value} (e : keyIs k u = true) : Reads h u (keyD k) [] := by
  rcases keyIs_shape e with ⟨i, t, rfl, rfl⟩ | ⟨x, t, rfl, rfl⟩
  · exact .int i t
  · exact .str x t
theorem reads_fl {h : Heap} : ∀ {v : V} {u : Value}, flOk v = true → RelV v u → Reads h u (flD v) []
  | .non, _, _, r => by cases r; exact .none
  | .bl b, _, _, r => by cases r; exact .bool b
  | .int i, _, _, r => by obtain ⟨t, rfl⟩ := r; exact .int i t
  | .str x, _, _, r => by obtain ⟨t, rfl⟩ := r; exact .str x t
theorem reads_pairs {h : Heap} {P : Program} {w : World} : ∀ {es : List DictEntry} {vs : List (Key × Value)} {kvs : List (Key × V)}, Pairs (mixKind P w) es vs → KV kvs vs → (kvs.all fun p => flOk p.2) = true →
    ReadsAll h (es.map (·.key)) (kvs.map fun p => keyD p.1) [] ∧ ReadsAll h (es.map (·.val)) (kvs.map fun p => flD p.2) []
  | _, _, _, .nil, .nil, _ => ⟨.nil, .nil⟩
  | _, _, _, .cons h1 h2 t, .cons ⟨e1, e2⟩ t2, hf => by
    rw [List.all_cons, Bool.and_eq_true] at hf
    obtain ⟨a, b⟩ := reads_pairs (h := h) t t2 hf.2
    have k1 := reads_key (h := h) (show keyIs _ _ = true from h1)
    rw [← e1] at k1
    have v1 := reads_fl (h := h) hf.1 e2
    rw [← h2] at v1
    exact ⟨.cons k1 a, .cons v1 b⟩
end
/-- what repr asks of a thing -/
structure Fit (d : PyData) : Prop where
  len : d.shown.length ≤ 1000000
  sh : d.showable = true
  dp : d.depth ≤ 50
  ok : d.hasDict = true → lstless d = true
end OC
set_option Elab.async false
set_option linter.all false
set_option maxRecDepth 100000
set_option maxHeartbeats 2000000
/-! xs == [], xs != [], whatever xs holds -/
set_option Elab.async false
set_option linter.all false
set_option maxRecDepth 100000
set_option maxHeartbeats 1000000
/-! things as data: what repr and the judges ask of them -/
namespace OC
open PySem PySem.Spec PyProof.Rows L2
/-- nothing is bad -/
abbrev NB : Addr → Prop := fun _ => False
/-- fit for repr, with bounds -/
structure FitB (B k : Nat) (d : PyData) : Prop where
  len : d.shown.length ≤ B
  sh : d.showable = true
  dp : d.depth ≤ k
  ok : d.hasDict = true → lstless d = true
theorem FitB.mono {B B' k k' : Nat} {d : PyData} (h : FitB B k d) (hB : B ≤ B') (hk : k ≤ k') : FitB B' k' d := ⟨Nat.le_trans h.len hB, h.sh, Nat.le_trans h.dp hk, h.ok⟩
theorem FitB.fit {B k : Nat} {d : PyData} (h : FitB B k d) (hB : B ≤ 1000000) (hk : k ≤ 50) : Fit d := ⟨Nat.le_trans h.len hB, h.sh, Nat.le_trans h.dp hk, h.ok⟩
theorem log_small {i : Int} (h : i.natAbs < 10 ^ 40) : i.natAbs.log2 < 1920 := by
  by_cases hz : i.natAbs = 0
  · rw [hz]
    decide
  · exact (Nat.log2_lt hz).mpr (Nat.lt_of_lt_of_le h (by decide +kernel))
theorem fit_int {i : Int} (h : i.natAbs < 10 ^ 40) : FitB 50 0 (.int i) := by
  refine ⟨?_, ?_, by simp [PyData.depth], by simp [PyData.hasDict]⟩
  · have e := int_text_length_le10 (k := 40) (by decide) h
    show (Str.ofString (toString i)).length ≤ 50
    rw [PySem.ofString_length]
    omega
  · simp only [PyData.showable]
    exact decide_eq_true (log_small h)
theorem sum_le {B : Nat} : ∀ {ts : List Str}, (∀ t ∈ ts, t.length ≤ B) → (ts.map (·.length)).sum ≤ ts.length * B
  | [], _ => by simp
  | t :: r, h => by
    have h1 := h t List.mem_cons_self
    have h2 := sum_le (ts := r) fun x hx => h x (List.mem_cons_of_mem _ hx)
    rw [List.map_cons, List.sum_cons, List.length_cons, Nat.add_mul]
    omega
theorem shownAll_map : ∀ ds : List PyData, PyData.shownAll ds = ds.map PyData.shown
  | [] => by simp [PyData.shownAll]
  | d :: r => by simp [PyData.shownAll, shownAll_map r]
theorem showAll_of : ∀ {ds : List PyData}, (∀ d ∈ ds, d.showable = true) → PyData.showableAll ds = true
  | [], _ => by simp [PyData.showableAll]
  | d :: r, h => by simp [PyData.showableAll, h d List.mem_cons_self, showAll_of (ds := r) fun x hx => h x (List.mem_cons_of_mem _ hx)]
theorem depthAll_of {k : Nat} : ∀ {ds : List PyData}, (∀ d ∈ ds, d.depth ≤ k) → PyData.depthAll ds ≤ k
  | [], _ => by simp [PyData.depthAll]
  | d :: r, h => by
    have h1 := h d List.mem_cons_self
    have h2 := depthAll_of (ds := r) fun x hx => h x (List.mem_cons_of_mem _ hx)
    simp only [PyData.depthAll]
    omega
/-- a row of rests, by data -/
def restD (p : Int) : PyData → Bool
  | .int i => decide (0 ≤ i) && decide (i < p)
  | _ => false
def isRowD (p n : Int) : PyData → Bool
  | .tuple ds => decide ((ds.length : Int) = n) && ds.all (restD p)
  | _ => false
/-- a tuple's length is within bounds -/
def lenOk : PyData → Prop
  | .tuple ds => ds.length ≤ 1000
  | _ => True
theorem row_rep {K : PySem.W.Frag} {H : Hp} {bad : Addr → Prop} {a : Addr} {r : List Int} (h : SqT K H a (r.map V.int)) : Rep K H bad (.ref a) (rowD r) := .tup h (repAll_ints r)
end OC
set_option Elab.async false
set_option linter.all false
set_option maxRecDepth 100000
set_option maxHeartbeats 1000000
/-! slices and sums of tuples, whichever tuple is told -/
namespace OC
open PySem PySem.Spec PyProof.Rows L2
theorem cut_whole {xs : List V} {lo hi : Option Int} (h : HT.sIx xs.length 0 lo = 0 ∧ HT.sIx xs.length xs.length hi = xs.length) : cutV xs lo hi = xs := by
  unfold cutV
  rw [h.1, h.2, List.drop_zero, Nat.sub_zero, List.take_length]
def rSlB (K : PySem.W.Frag) : V → Option Int → Option Int → Hp → VK → Prop := fun x lo hi H Q => ∃ a xs, x = .ref a ∧ SqT K H a xs ∧ ∀ p H', Same H H' → SqT K H' p (cutV xs lo hi) → Q (.ref p) H'
theorem sl_tupB {X : Cx} : SlR X (rSlB X.K) := by
  intro pins s σ H x v vl vu lo hi sl Q I rx hs pl pu h
  obtain ⟨a, xs, ex, hx, q⟩ := h
  exact sl_tupA pins s σ H x v vl vu lo hi sl Q I rx hs pl pu ⟨a, xs, ex, hx, fun hw => q a H (Same.refl H) (by rw [cut_whole hw]; exact hx), fun _ p np => q p _ (same_upd np) (.inl (.inl upd_same))⟩
def rCatB (K : PySem.W.Frag) : R2 := fun x y H Q => ∃ a b xs ys, x = .ref a ∧ y = .ref b ∧ SqT K H a xs ∧ SqT K H b ys ∧ xs.length + ys.length ≤ sizeLine ∧ ∀ p H', Same H H' → SqT K H' p (xs ++ ys) → Q (.ref p) H'
theorem op_catB {X : Cx} : OpR X (binaryOp .Add) (rCatB X.K) := by
  intro pins s σ H x y v u Q I rx ry h
  obtain ⟨a, b, xs, ys, ex, ey, hx, hy, hz, q⟩ := h
  refine op_catA pins s σ H x y v u Q I rx ry ⟨a, b, xs, ys, ex, ey, hx, hy, hz, fun z => q b H (Same.refl H) ?_, fun _ z => q a H (Same.refl H) ?_, fun _ _ p np => q p _ (same_upd np) (.inl (.inl upd_same))⟩
  · rw [z, List.nil_append]
    exact hy
  · rw [z, List.append_nil]
    exact hx
theorem cut_from {xs : List V} {i : Int} (h0 : 0 ≤ i) (h1 : i ≤ xs.length) : cutV xs (some i) none = xs.drop i.toNat := by
  unfold cutV
  have e : HT.sIx xs.length 0 (some i) = min i.toNat xs.length := by
    have := HT.sIx_nat xs.length 0 i.toNat
    rw [show ((i.toNat : Nat) : Int) = i by omega] at this
    exact this
  rw [e, HT.sIx_none, show min i.toNat xs.length = i.toNat by omega]
  exact List.take_of_length_le (by rw [List.length_drop]; omega)
mutual
theorem rep_weak {K : PySem.W.Frag} {b1 b2 : Addr → Prop} {H : Hp} (e : ∀ a, b2 a → b1 a) : ∀ (d : PyData) (v : V), Rep K H b1 v d → Rep K H b2 v d
  | .none, _, h => by cases h; exact .non
  | .bool b, _, h => by cases h; exact .bl b
  | .int i, _, h => by cases h; exact .int i
  | .str x, _, h => by cases h; exact .str x
  | .list ds, _, h => by
    cases h with
    | lst hs hb ha => exact .lst hs (fun z => hb (e _ z)) (repAll_weak e ds _ ha)
  | .tuple ds, _, h => by
    cases h with
    | tup hs ha => exact .tup hs (repAll_weak e ds _ ha)
  | .dict _, _, h => by
    cases h with
    | dct hs hf => exact .dct hs hf
theorem repAll_weak {K : PySem.W.Frag} {b1 b2 : Addr → Prop} {H : Hp} (e : ∀ a, b2 a → b1 a) : ∀ (ds : List PyData) (vs : List V), RepAll K H b1 vs ds → RepAll K H b2 vs ds
  | [], _, h => by cases h; exact .nil
  | d :: ds, _, h => by
    cases h with
    | cons h1 h2 => exact .cons (rep_weak e d _ h1) (repAll_weak e ds _ h2)
end
end OC
set_option Elab.async false
set_option linter.all false
set_option maxRecDepth 100000
set_option maxHeartbeats 1000000
/-! comprehensions over lists and tuples of things -/
namespace OC
open PySem PySem.Spec PyProof.Rows L2
mutual
theorem rep_fresh {K : PySem.W.Frag} {bad : Addr → Prop} {H : Hp} {B : Addr} (n : H B = none) : ∀ (d : PyData) (v : V), Rep K H bad v d → Rep K H (fun a => bad a ∨ a = B) v d
  | .none, _, h => by cases h; exact .non
  | .bool b, _, h => by cases h; exact .bl b
  | .int i, _, h => by cases h; exact .int i
  | .str x, _, h => by cases h; exact .str x
  | .list ds, _, h => by
    cases h with
    | lst hs hb ha => exact .lst hs (fun z => z.elim hb (fun e => by subst e; rw [n] at hs; cases hs)) (repAll_fresh n ds _ ha)
  | .tuple ds, _, h => by
    cases h with
    | tup hs ha => exact .tup hs (repAll_fresh n ds _ ha)
  | .dict _, _, h => by
    cases h with
    | dct hs hf => exact .dct hs hf
theorem repAll_fresh {K : PySem.W.Frag} {bad : Addr → Prop} {H : Hp} {B : Addr} (n : H B = none) : ∀ (ds : List PyData) (vs : List V), RepAll K H bad vs ds → RepAll K H (fun a => bad a ∨ a = B) vs ds
  | [], _, h => by cases h; exact .nil
  | d :: ds, _, h => by
    cases h with
    | cons h1 h2 => exact .cons (rep_fresh n d _ h1) (repAll_fresh n ds _ h2)
end
theorem upd_stays {bad : Addr → Prop} {H H' : Hp} {D : Addr} {xs ys : List V} (s : Stays bad H H') (h : H' D = some (.lst xs)) (bD : bad D) : Stays bad H (upd H' D (.lst ys)) := by
  refine ⟨s.t.mut h, fun a zs q => ?_, fun a zs q n => ?_⟩
  · have := s.d a zs q
    rw [upd_ne (fun z => by subst z; rw [h] at this; cases this)]
    exact this
  · rw [upd_ne (fun z => n (by rw [z]; exact bD))]
    exact s.l a zs q n
theorem Same.some {H H' : Hp} (s : Same H H') {a : Addr} (h : H a ≠ none) : H' a ≠ none := by
  rcases hq : H a with _ | o
  · exact absurd hq h
  · rw [s a o hq]
    exact fun z => nomatch z
/-- what is new at D or behind H -/
abbrev NewBy (H : Hp) (D : Addr) : Addr → Prop := fun a => H a ≠ none ∨ a = D
/-- a comprehension [f(x) for x in xs]: each thing to a thing, new ones alone -/
theorem lc_mapR {K : PySem.W.Frag} {J : It} {G : Hp → Prop} {vs : List V} {ds : List PyData} {σ : L2.St} {H : Hp} {Qd : Addr → Hp → Prop} {i : Nat} {sl : List Nat} {te : TE} (F : PyData → PyData)
    (w : Walk J vs.length G (YAt vs)) (hG : ∀ H', Same H H' → G H') (hD : RepAll K H NB vs ds) (hz : vs.length ≤ 1000) (hw : ∀ x : Option V, wipe ((wipe σ sl).set i x) sl = wipe σ sl)
    (hte : ∀ (v : V) (d : PyData) (H' : Hp) (Q' : VK), d ∈ ds → Rep K H' NB v d → Same H H' → (∀ v' H'', Same H' H'' → Rep K H'' (fun a => H' a ≠ none) v' (F d) → Q' v' H'') → te ((wipe σ sl).set i (some v)) H' Q')
    (hd : ∀ D H' ws, Same H H' → H D = none → H' D = some (.lst ws) → RepAll K H' (NewBy H D) ws (ds.map F) → Qd D H') :
    LcGoal J (gName i) tYes te sl σ H Qd := by
  intro D nD
  have lv := repAll_len hD
  refine lc_it w (fun k H' => Same H H' ∧ ∃ ws, H' D = some (.lst ws) ∧ ws.length = k ∧ RepAll K H' (NewBy H D) ws ((ds.take k).map F)) ⟨same_mut (Same.refl H) nD, [], upd_same, rfl, .nil⟩ (fun k H' _ hP => hG H' hP.1) (fun k x H1 H2 hk hP hY => ?_) (fun H' hP => ?_)
  · obtain ⟨rfl, e1⟩ := hY
    obtain ⟨sm, ws, eD, lw, rw_⟩ := hP
    obtain ⟨d, g, md, rx⟩ := repAll_get hD e1
    refine ⟨hw _, hte x d _ _ md (rep_stays (Stays.of sm) _ _ rx) sm fun v' H'' s2 rv => ?_⟩
    have eD2 := s2 _ _ eD
    refine ⟨ws, eD2, small1000 (by omega), same_mut (sm.trans s2) nD, ws ++ [v'], upd_same, by rw [List.length_append, lw]; rfl, ?_⟩
    rw [List.take_add_one, g, List.map_append]
    refine repAll_append (repAll_stays (upd_stays (Stays.of s2) eD2 (.inr rfl)) _ _ rw_) (.cons ?_ .nil)
    refine rep_stays (upd_stays (Stays.of (Same.refl H'')) eD2 (.inr rfl)) _ _ (rep_weak (fun a ha => ?_) _ _ rv)
    rcases ha with h | h
    · exact Same.some sm h
    · subst h
      rw [eD]
      exact fun z => nomatch z
  · obtain ⟨sm, ws, eD, lw, rw_⟩ := hP
    rw [List.take_of_length_le (by omega)] at rw_
    exact hd D H' ws sm nD eD rw_
end OC
set_option Elab.async false
set_option linter.all false
set_option maxRecDepth 100000
set_option maxHeartbeats 2000000
/-! enumerate(t) of a tuple, in a for -/
namespace OC
open PySem PySem.Spec PyProof.Rows L2
open Sem (wp)
theorem meets_enum1 {v : Value} {ob : Obj} {G : Heap → Prop} (B : Begins v ob G) : Meets (Builtin.«enumerate.__new__» ⟨[.type "enumerate", v], []⟩) (fun _ R s => G s.heap ∧ R (.ok (.ret (.ref (s.heap.push ob).objs.size))) { s with heap := (s.heap.push ob).push { cls := .type "enumerate", data := .fields #[.none, .bool false, .ref s.heap.objs.size, rawInt 0, .none, .none] } }) :=
  .of_wp fun P w A R s z => by
    obtain ⟨hp, g, d, tk, os⟩ := s
    obtain ⟨z1, z⟩ := z
    have hsub := sub_enumerate
    have q1 : ∀ {A' : Around} {E' : Value → Shared → Prop} {Q' : Value → Shared → Prop}, Q' (.ref hp.objs.size) ⟨hp.push ob, g, d, tk, os⟩ → wpAny (model P w) A' (pyIter v) Q' E' ⟨hp, g, d, tk, os⟩ := fun y => B.iter P w _ _ ⟨hp, g, d, tk, os⟩ _ z1 y
    wp_walk using q1
    refine wpAny_stack_any fun _ => wpAny_pure ?_
    split
    · rename_i c _ _ _ _ _
      cases (c == Value.type "enumerate") <;> (wp_walk using q1; exact ⟨_, rfl, z⟩)
    · wp_walk using q1
      exact ⟨_, rfl, z⟩
section
variable {P : Program} {w : World} {A : Around} {E : Value → Shared → Prop} {s : Shared}
theorem call_enumB {v : Value} {ob : Obj} {G : Heap → Prop} {Q : Value → Shared → Prop} (B : Begins v ob G) (g : G s.heap)
    (q : ∀ h1 : Heap, IsEnum h1 (s.heap.objs.size + 1) s.heap.objs.size 0 .none → h1.get? s.heap.objs.size = some ob → (∀ b o, s.heap.get? b = some o → h1.get? b = some o) → Q (.ref (s.heap.objs.size + 1)) { s with heap := h1 }) : wpAny (model P w) A (call (.type "enumerate") [v]) Q E s := by
  refine callType_new F.called_enumerate (by decide) (F.typeCall_enumerate_1 _) (F.newCall_enumerate_1 _) (fun z => F.args_object_init_2 z _) F.entry_enumerate_new (meets_enum1 B) ⟨g, ?_⟩
  have sz : (s.heap.push ob).objs.size = s.heap.objs.size + 1 := Heap.size_push ..
  show _ ∧ _
  rw [sz]
  have en : IsEnum ((s.heap.push ob).push { cls := .type "enumerate", data := .fields #[.none, .bool false, .ref s.heap.objs.size, rawInt 0, .none, .none] }) (s.heap.objs.size + 1) s.heap.objs.size 0 .none := by
    have z := Heap.get?_push_size (s.heap.push ob) (o := { cls := .type "enumerate", data := .fields #[.none, .bool false, .ref s.heap.objs.size, rawInt 0, .none, .none] }) rfl
    rw [sz] at z
    exact z
  exact ⟨⟨_, en, rfl⟩, q _ en (Heap.get?_push_of_some _ (Heap.get?_push_size _ B.free)) fun b o z => Heap.get?_push_of_some _ (Heap.get?_push_of_some _ z)⟩
end
/-- the tuple at a, each item in a new pair -/
def IteT (K : PySem.W.Frag) (a : Addr) : It :=
  ⟨fun i H => ∃ (xs : List V) (x : V), SqT K H a xs ∧ xs[i]? = some x,
   fun i H v H' => ∃ T x, v = .ref T ∧ H T = none ∧ H' = upd H T (.tup [.int (i : Nat), x]) ∧ ∀ xs, SqT K H a xs → xs[i]? = some x,
   fun i H => ∃ xs : List V, SqT K H a xs ∧ xs.length ≤ i⟩
theorem turn_enumT {P : Program} {w : World} {K : PySem.W.Frag} {elts : List Expr} {kk : Nat} {tp : Pos} (a e it : Addr) :
    Turn P w K (.Tuple elts kk tp) (IteT K a) [e, it] e (fun i h => (∃ old, IsEnum h e it ((i : Nat) : Int) old) ∧ h.IsTupleIter it a i ∧ e ≠ it) where
  mem := by simp
  obj := fun i h st b hb => by
    obtain ⟨⟨old, he⟩, ⟨o, ho, hc, hd⟩, _⟩ := st
    rcases (by simpa using hb : b = e ∨ b = it) with z | z
    · subst z; exact ⟨_, he, fun v y => nomatch y⟩
    · subst z; exact ⟨o, ho, fun v y => by rw [hd] at y; cases y⟩
  keep := fun i h h' st k => by
    obtain ⟨⟨old, he⟩, hi, ne⟩ := st
    exact ⟨⟨old, k e (by simp) _ he⟩, hi.at fun o y => k it (by simp) o y, ne⟩
  item := by
    intro X hP hw hK hc i pins s σ H E I hf st hg
    subst hP hw hK
    obtain ⟨⟨old, he⟩, hit, ne⟩ := st
    obtain ⟨xs, x, hq, hx⟩ := hg
    obtain ⟨its, rv, tp, hz⟩ := I.tuple hq
    obtain ⟨u, hu, ru⟩ := rv.get hx
    have hel : e < s.heap.objs.size := Heap.lt_size he
    have hil : it < s.heap.objs.size := by obtain ⟨_, y, _⟩ := hit; exact Heap.lt_size y
    have ta : s.heap.IsTuple a its.toArray := tp
    have ai : a ≠ it := fun z => by
      obtain ⟨o1, g1, c1, _⟩ := ta
      obtain ⟨o2, g2, c2, _⟩ := hit
      rw [z, g2] at g1
      rw [← Option.some.inj g1, c2] at c1
      exact absurd (Value.type.inj c1) (by decide)
    have ea : e ≠ a := fun z => by
      obtain ⟨o1, g1, c1, _⟩ := ta
      have he' : s.heap.get? e = some _ := he
      rw [z, g1] at he'
      have := Option.some.inj he'
      rw [this] at c1
      exact absurd (Value.type.inj c1) (by decide)
    have hlt : i < its.toArray.size := by
      have := (List.getElem?_eq_some_iff.mp hu).1
      simpa using this
    refine wpAny_pyNext_enum_itemD (Draws.tuple (A := X.A.in1) (I.ok.hd hc) it a ai its.toArray) he ⟨hit, ta⟩ hlt ne (by simp [ne, ea]) fun u' h1 tk hu' ho st1 hT hsz hk => ?_
    have eu : u' = u := by
      have e1 : its.toArray[i]? = some u := by simpa using hu
      rw [e1] at hu'
      exact (Option.some.inj hu').symm
    subst eu
    refine ⟨_, rfl, wpAny_letOwnedTupleGo_enum (s := { s with heap := h1, toks := tk + 1 }) ho fun h2 he' sb => ?_⟩
    have hT2 : h2.get? s.heap.objs.size = some { cls := .type "tuple", data := .seq #[.int i tk, u'] } := (sb.2 _ (Nat.ne_of_gt hel)).trans hT
    have new : ObjOk X.prog X.w (upd H s.heap.objs.size (.tup [.int (i : Nat), x])) h2 s.heap.objs.size (.tup [.int (i : Nat), x]) := ⟨(by decide : 2 ≤ sizeLine), [.int i tk, u'], .cons ⟨_, rfl⟩ (.cons ru .nil), ⟨_, hT2, rfl, _, rfl⟩⟩
    have I1 : Inv X pins σ (upd H s.heap.objs.size (.tup [.int (i : Nat), x])) { s with heap := h2, toks := tk + 1 } :=
      I.turnedNew (t' := tk + 1) (ch := [e, it]) (fun b ob nb y => (sb.2 b (fun z => nb (by simp [z]))).trans (hk b ob (fun z => nb (by simp [z])) (fun z => nb (by simp [z])) y)) hf (Nat.le_refl _) new
    refine ⟨.ref s.heap.objs.size, _, I1, rfl, ⟨_, x, rfl, I.hok.fresh (Nat.le_refl _), rfl, fun ys hy => by rw [I.tuple_inj hy hq]; exact hx⟩, ⟨⟨u', ?_⟩, st1.1.at fun o y => (sb.2 it (Ne.symm ne)).trans y, ne⟩, fun b hb => ?_⟩
    · rw [show ((i + 1 : Nat) : Int) = (i : Int) + 1 from by omega]
      exact he'
    · have lb : b < s.heap.objs.size := by
        rcases (by simpa using hb : b = e ∨ b = it) with z | z
        · exact z ▸ hel
        · exact z ▸ hil
      rw [upd_ne (Nat.ne_of_lt lb)]
      exact (hf b hb).1
  done := by
    intro X hP hw hK hc i pins s σ H E I hf st hg
    subst hP hw hK
    obtain ⟨⟨old, he⟩, hit, ne⟩ := st
    obtain ⟨xs, hq, hx⟩ := hg
    obtain ⟨its, rv, tp, hz⟩ := I.tuple hq
    obtain ⟨f0, f1, f2, f3, f4, f5⟩ := hf it (by simp)
    have ta : s.heap.IsTuple a its.toArray := tp
    have hl := rv.length
    have hh : X.A.in1.handled = none := I.ok.hd hc
    have hT : s.TypeIs (.ref e) "enumerate" := ⟨_, he, rfl⟩
    unfold pyNext
    refine wpAny_bind (wpAny_attempt (wpAny_callSpecial?_slot (name := Str.ofString "__next__") hT F.slot_enumerate_next (wpAny_call_entry F.slot_enumerate_next hT F.entry_enumerate_next ?_ (F.args_enumerate_next_1 _))))
    show wpAny _ _ (field (.ref e) 2 >>= _) _ _ s
    refine wpAny_bind (wpAny_field he rfl (x := .ref it) rfl (wpAny_bind (wpAny_nextOf_tuple_end hh hit ta (by simp; omega) fun h1 x eb hx' => ?_)))
    obtain ⟨o, ho, hcl⟩ := hx'
    refine wpAny_bind (wpAny_isInstance (T := "StopIteration") (b := true) ⟨o, ho, hcl⟩ isSubtype_stop (wpAny_pure ?_))
    exact ⟨rfl, I.turned (t' := s.toks) (fun b o nb y => eb b o nb y) f0 f1 f3 f4 f5⟩
  self := fun A i s Q E st h => by
    obtain ⟨⟨_, he⟩, _⟩ := st
    exact wpAny_pyIter_enum he h
def iEnumT (K : PySem.W.Frag) (ta : TA) : TI := fun σ H R => ta σ H fun vs H1 => ∃ a xs, vs = [.ref a] ∧ SqT K H1 a xs ∧ R (IteT K a) H1
theorem pi_enumT {X : Cx} {e : Expr} {ta : TA} {p pos tpos : Pos} {elts : List Expr} {kk : Nat} (hg : Gl X "enumerate") (hm : X.mg "enumerate" = none) (ha : PA X [e] ta) (hs : starEach [e] X.env = [(false, eval e X.env)] := by rfl) : PI X (.Tuple elts kk tpos) (.Call (.Name "enumerate" p) [e] [] pos) (iEnumT X.K ta) := by
  refine ⟨fun pins s σ H R I h => Call_ (ld_blt I hg hm boot_enumerate (PyProof.Rows.callWith_type1 (thn (ha.run pos pins s σ H _ I h) fun us s1 ⟨vs, H1, I1, r1, q1⟩ => ?_) hs rfl))⟩
  obtain ⟨a, xs, rfl, hq, q⟩ := q1
  cases r1 with
  | cons r rr =>
    cases rr
    cases r
    obtain ⟨its, rv, tp, hz⟩ := I1.tuple hq
    refine call_enumB (begins_tuple a its.toArray) tp fun h1 he hit hk => wpAny_pyIter_enum he ?_
    refine ⟨s1.heap.objs.size + 1, [s1.heap.objs.size + 1, s1.heap.objs.size], _, _, H1, rfl, I1.kept (t' := s1.toks) hk, turn_enumT a (s1.heap.objs.size + 1) s1.heap.objs.size, ⟨⟨.none, he⟩, ⟨_, hit, rfl, rfl⟩, Nat.succ_ne_self _⟩, fun b hb => ?_, q⟩
    have hle : s1.heap.objs.size ≤ b := by
      rcases (by simpa using hb : b = s1.heap.objs.size + 1 ∨ b = s1.heap.objs.size) with z | z
      · rw [z]; exact Nat.le_add_right _ _
      · rw [z]; exact Nat.le_refl _
    exact I1.fpOk hle (I1.hok.fresh hle)
theorem walk_enumT {K : PySem.W.Frag} {a : Addr} {xs : List V} : Walk (IteT K a) xs.length (fun H => SqT K H a xs) (YPair (fun i => some (.int (i : Nat))) (fun i => xs[i]?)) where
  goes i H hi q := ⟨xs, xs[i], q, List.getElem?_eq_getElem hi⟩
  stops H q := ⟨xs, q, Nat.le_refl _⟩
  yields i H v H' _ q y := by
    obtain ⟨T, x, ev, nT, eH, gx⟩ := y
    exact ⟨T, _, x, ev, nT, eH, rfl, gx xs q⟩
end OC
set_option Elab.async false
set_option linter.all false
set_option maxRecDepth 100000
set_option maxHeartbeats 2000000
/-! sorted(xs, reverse=True) of tuples of as many rests each -/
namespace OC
open PySem PySem.Spec PyProof.Rows L2 SrtO
section
variable {P : Program} {w : World} {A : Around} {s : Shared}
def ltT (h : Heap) (B : Int) : Value → Value → Bool := fun v u => decide (TS.code B (TS.intsOf h v) < TS.code B (TS.intsOf h u))
theorem swo_T (h : Heap) (B : Int) : Swo (ltT h B) where
  asym x y e := by
    have := of_decide_eq_true e
    exact decide_eq_false (by omega)
  tr x y z e1 e2 := by
    have h1 := of_decide_eq_false e1
    have h2 := of_decide_eq_false e2
    exact decide_eq_false (by omega)
theorem tups_sortable {h0 : Heap} {a : Addr} {vs : List Value} {d : Nat} {B : Int} (hd : 1 ≤ d) (h2 : 2 ≤ vs.length) (x : TS.TupsOk s.heap d B vs) (hi : ∀ v ∈ vs, TS.intsOf h0 v = TS.intsOf s.heap v) (ha : ∀ o, s.heap.get? a = some o → o.cls ≠ .type "tuple") : SortableO P w A s a vs (ltT h0 B) := by
  intro h' keep
  have x' : TS.TupsOk h' d B vs := x.keeps fun b o e c => keep b o (fun z => by subst z; exact ha o e c) e
  obtain ⟨fs, k, hl, hf⟩ := TS.firsts_of hd vs x'
  refine ⟨tuples' true, fun Q E hq => ?_, fun p q hp hq => ?_⟩
  · refine PySem.W.kat_kind (T := Value.type "int") k (by omega) (fun f hm => ?_) rfl ?_
    · obtain ⟨n, t, rfl⟩ := hf f hm
      exact PySem.W.Looks.of_pure rfl
    · rw [show (Value.type "int" != Value.type "tuple") = true from by first | decide +kernel | rfl]
      exact hq
  · obtain ⟨ns, tp, lp, bp⟩ := x _ hp
    obtain ⟨ms, tq, lq, bq⟩ := x _ hq
    have kk : ∀ b o, s.heap.get? b = some o → o.cls = .type "tuple" → h'.get? b = some o := fun b o e c => keep b o (fun z => by subst z; exact ha o e c) e
    have e1 : TS.intsOf h0 p.1 = ns := by rw [hi _ hp]; exact tp.ints
    have e2 : TS.intsOf h0 q.1 = ms := by rw [hi _ hq]; exact tq.ints
    have tp' := tp.keeps kk
    have tq' := tq.keeps kk
    show wpAny (model P w) A (keyLt' (tuples' true) p.1 q.1) (fun r s' => s' = { s with heap := h' } ∧ r = ltT h0 B p.1 q.1) (fun _ _ => False) { s with heap := h' }
    unfold ltT
    rw [e1, e2]
    obtain ⟨a1, xs, q1, ⟨o, ho, hc, n, hdt⟩, i⟩ := tp'
    obtain ⟨a2, ys, q2, ⟨o', ho', hc', n', hdt'⟩, i'⟩ := tq'
    rw [q1, q2]
    refine PySem.W.kat_lt (s := { s with heap := h' }) ho hdt ho' hdt' ?_
    have sz : decide (xs.size < ys.size) = false := by
      have l1 := i.length
      have l2 := i'.length
      rw [Array.length_toList] at l1 l2
      exact decide_eq_false (by omega)
    rw [sz]
    exact TS.lex_ints 0 i i' (by omega) bp bq ⟨rfl, rfl⟩
end
def rSortTR (K : PySem.W.Frag) : List V → List V → Hp → VK → Prop := fun vs zs H Q => ∃ (a : Addr) (xs : List V) (d : Nat) (B : Int), vs = [V.ref a] ∧ zs = [.bl true] ∧ 1 ≤ d ∧ SqL K H a xs ∧ (∀ x ∈ xs, ∃ ns, TupI K H x ns ∧ ns.length = d ∧ TS.Bd B ns) ∧
  ∀ (ys : List V) (p : Addr), ys.Perm xs → ys.Pairwise (fun x y => ∀ n m, TupI K H x n → TupI K H y m → TS.code B m ≤ TS.code B n) → H p = none → Q (.ref p) (upd H p (.lst ys))
theorem cr_sortTR {X : Cx} : CallRK X (.builtin "sorted") [Str.ofString "reverse"] (rSortTR X.K) := by
  intro pins s σ H vs zs us ws Q I r rz h
  obtain ⟨a, xs, d, B, rfl, rfl, hd, hs, hx, q⟩ := h
  rw [Vals.ref1 r]
  obtain ⟨w1, rfl, e1⟩ := vals1 rz
  obtain rfl : w1 = Value.bool true := e1
  obtain ⟨its, rv, hl, hz⟩ := I.list hs
  obtain ⟨e1, e2⟩ := bkV_refs rv fun x m => by
    obtain ⟨ns, ⟨t, e, _⟩, _⟩ := hx x m
    exact ⟨t, e⟩
  have tups : TS.TupsOk s.heap d B its := fun v hv => by
    obtain ⟨t, rfl⟩ := e2 v hv
    have hm : V.ref t ∈ xs := by rw [e1]; exact List.mem_map.mpr ⟨_, hv, rfl⟩
    obtain ⟨ns, ⟨t', e, ht⟩, hn, hb⟩ := hx _ hm
    cases e
    exact ⟨ns, tupI_raw I ht, hn, hb⟩
  show wpAny (model X.prog X.w) X.A (call (.builtin "sorted") [.ref a] [(Str.ofString "reverse", .bool true)]) _ _ _
  refine SrtR.sorted_ordK (b := true) (ltv := ltT s.heap B) (fun _ => rfl) (PyProof.Rows.args_sorted_rev _ _) (fun _ => PyProof.Rows.args_list_sort_rev _ _) (swo_T s.heap B) hl.isList (by rw [← rv.length]; exact hz) (fun h2 h1 a' ha' kk => ?_) fun out o1 o2 => ?_
  · have keep : ∀ b o, s.heap.get? b = some o → o.cls = .type "tuple" → h1.get? b = some o := fun b o e _ => (kk b o e).2
    refine tups_sortable (s := { s with heap := h1 }) hd h2 (tups.keeps keep) (fun v hv => ?_) fun o e => ?_
    · obtain ⟨ns, tp, _⟩ := tups v hv
      rw [tp.ints, (tp.keeps keep).ints]
    · have e' : some o = some (seqObj "list" its.toArray 0) := e.symm.trans ha'
      cases e'
      intro c
      exact absurd (Value.type.inj c) (by decide)
  · obtain ⟨ep, he'⟩ := PyProof.Rows.sortedAll_at s.heap its out.toArray.reverse
    have pm : out.Perm its := o2.perm.trans (List.reverse_perm _)
    have h3 : ∀ u ∈ out.reverse, ∃ a, u = Value.ref a := fun u hu => e2 u (pm.mem_iff.mp (List.mem_reverse.mp hu))
    have hp : (out.reverse.map bkV).Perm xs := by
      rw [e1]
      exact ((List.reverse_perm out).trans pm).map bkV
    have hlen : (out.reverse.map bkV).length ≤ sizeLine := by
      rw [hp.length_eq]
      exact hz
    have ea : out.reverse.toArray = out.toArray.reverse := by
      apply Array.ext'
      rw [Array.toList_reverse]
    refine ⟨.ref _, upd H (s.heap.objs.size + 1) (.lst (out.reverse.map bkV)), I.laid (t' := s.toks) (fun _ _ => PyProof.Rows.sortedAll_old) (Nat.le_succ _) ⟨hlen, out.reverse, ep, bkV_vals h3, by rw [ea]; exact he'⟩, rfl, q _ _ hp ?_ (I.hok.fresh (Nat.le_succ _))⟩
    rw [List.pairwise_map, List.pairwise_reverse]
    refine o1.imp fun {u v} huv n m hn hm => ?_
    obtain ⟨t, et, ht⟩ := hn
    obtain ⟨t', et', ht'⟩ := hm
    have i1 : TS.intsOf s.heap v = n := by
      rw [bkV_ref et]
      exact (tupI_raw I ht).ints
    have i2 : TS.intsOf s.heap u = m := by
      rw [bkV_ref et']
      exact (tupI_raw I ht').ints
    have z := of_decide_eq_false huv
    rw [i1, i2] at z
    omega
end OC
/-! Linear algebra over Fin p, vectors as functions: spans, plain forms, their uniqueness. Core Lean alone. -/
namespace Lin
set_option linter.all false
section
variable {p : Nat} [NeZero p]
abbrev Vec (p : Nat) := Nat → Fin p
def zeroV : Vec p := fun _ => 0
def addV (x y : Vec p) : Vec p := fun i => x i + y i
def mulV (c : Fin p) (x : Vec p) : Vec p := fun i => c * x i
/-- closed under sums and multiples -/
structure Sub (S : Vec p → Prop) : Prop where
  zero : S zeroV
  add : ∀ {x y}, S x → S y → S (addV x y)
  mul : ∀ (c : Fin p) {x}, S x → S (mulV c x)
def lin : List (Fin p) → List (Vec p) → Vec p
  | f :: fs, v :: vs => addV (mulV f v) (lin fs vs)
  | _, _ => zeroV
def Spn (vs : List (Vec p)) (x : Vec p) : Prop := ∃ fs : List (Fin p), x = lin fs vs
theorem zero_add (x : Vec p) : addV zeroV x = x := by
  funext i
  show (0 : Fin p) + x i = x i
  grind
theorem lin_nil (vs : List (Vec p)) : lin [] vs = zeroV := by cases vs <;> rfl
theorem lin_nil' (fs : List (Fin p)) : lin fs ([] : List (Vec p)) = zeroV := by cases fs <;> rfl
def addF : List (Fin p) → List (Fin p) → List (Fin p)
  | f :: fs, g :: gs => (f + g) :: addF fs gs
  | [], gs => gs
  | fs, [] => fs
theorem lin_add : ∀ (vs : List (Vec p)) (fs gs : List (Fin p)), addV (lin fs vs) (lin gs vs) = lin (addF fs gs) vs
  | [], fs, gs => by
    rw [lin_nil', lin_nil', lin_nil', zero_add]
  | v :: vs, [], gs => by
    rw [lin_nil, zero_add]
    simp only [addF]
  | v :: vs, f :: fs, [] => by
    rw [lin_nil]
    simp only [addF]
    funext i
    show lin (f :: fs) (v :: vs) i + (0 : Fin p) = lin (f :: fs) (v :: vs) i
    grind
  | v :: vs, f :: fs, g :: gs => by
    have ih := lin_add vs fs gs
    simp only [addF, lin]
    rw [← ih]
    funext i
    show f * v i + lin fs vs i + (g * v i + lin gs vs i) = (f + g) * v i + (lin fs vs i + lin gs vs i)
    grind
theorem lin_mul (c : Fin p) : ∀ (vs : List (Vec p)) (fs : List (Fin p)), mulV c (lin fs vs) = lin (fs.map (c * ·)) vs
  | [], fs => by
    rw [lin_nil', lin_nil']
    funext i
    show c * (0 : Fin p) = 0
    grind
  | v :: vs, [] => by
    rw [List.map_nil, lin_nil]
    funext i
    show c * (0 : Fin p) = 0
    grind
  | v :: vs, f :: fs => by
    have ih := lin_mul c vs fs
    rw [List.map_cons]
    simp only [lin]
    rw [← ih]
    funext i
    show c * (f * v i + lin fs vs i) = c * f * v i + c * lin fs vs i
    grind
theorem spn_sub (vs : List (Vec p)) : Sub (Spn vs) where
  zero := ⟨[], (lin_nil vs).symm⟩
  add := by
    rintro x y ⟨fs, rfl⟩ ⟨gs, rfl⟩
    exact ⟨_, lin_add vs fs gs⟩
  mul := by
    rintro c x ⟨fs, rfl⟩
    exact ⟨_, lin_mul c vs fs⟩
theorem spn_tail {v : Vec p} {vs : List (Vec p)} {x : Vec p} (h : Spn vs x) : Spn (v :: vs) x := by
  obtain ⟨fs, rfl⟩ := h
  refine ⟨0 :: fs, ?_⟩
  funext i
  show lin fs vs i = 0 * v i + lin fs vs i
  grind
theorem spn_mem : ∀ {vs : List (Vec p)} {v : Vec p}, v ∈ vs → Spn vs v
  | w :: vs, v, h => by
    rcases List.mem_cons.mp h with rfl | h
    · refine ⟨[1], ?_⟩
      funext i
      show v i = 1 * v i + lin [] vs i
      rw [lin_nil]
      show v i = 1 * v i + (0 : Fin p)
      grind
    · exact spn_tail (spn_mem h)
theorem spn_le {S : Vec p → Prop} (hS : Sub S) : ∀ {vs : List (Vec p)}, (∀ v ∈ vs, S v) → ∀ {x}, Spn vs x → S x
  | [], _, x, ⟨fs, e⟩ => by
    rw [e, lin_nil']
    exact hS.zero
  | v :: vs, h, x, ⟨[], e⟩ => by
    rw [e, lin_nil]
    exact hS.zero
  | v :: vs, h, x, ⟨f :: fs, e⟩ => by
    rw [e]
    exact hS.add (hS.mul f (h v List.mem_cons_self)) (spn_le hS (fun w hw => h w (List.mem_cons_of_mem _ hw)) ⟨fs, rfl⟩)
theorem spn_sub_of {vs ws : List (Vec p)} (h : ∀ v ∈ vs, Spn ws v) {x : Vec p} (hx : Spn vs x) : Spn ws x := spn_le (spn_sub ws) h hx
theorem Sub.less {S : Vec p → Prop} (hS : Sub S) {x y : Vec p} (c : Fin p) (hx : S x) (hy : S y) : S (fun i => x i - c * y i) := by
  have h := hS.add hx (hS.mul (-c) hy)
  have e : addV x (mulV (-c) y) = fun i => x i - c * y i := by
    funext i
    show x i + -c * y i = x i - c * y i
    grind
  rw [e] at h
  exact h
/-! ### plain forms: pairs of a first place and a row -/
structure PF (n : Nat) (bs : List (Nat × Vec p)) : Prop where
  inc : bs.Pairwise (fun a b => a.1 < b.1)
  lt : ∀ b ∈ bs, b.1 < n
  one : ∀ b ∈ bs, b.2 b.1 = 1
  low : ∀ b ∈ bs, ∀ i, i < b.1 → b.2 i = 0
  off : ∀ b ∈ bs, ∀ c ∈ bs, b.1 ≠ c.1 → b.2 c.1 = 0
  wid : ∀ b ∈ bs, ∀ i, n ≤ i → b.2 i = 0
/-- the part of x that the rows tell by its rests at their first places -/
def red : List (Nat × Vec p) → Vec p → Vec p
  | [], _ => zeroV
  | b :: bs, x => addV (mulV (x b.1) b.2) (red bs x)
theorem red_add : ∀ (bs : List (Nat × Vec p)) (x y : Vec p), red bs (addV x y) = addV (red bs x) (red bs y)
  | [], x, y => by simp only [red]; rw [zero_add]
  | b :: bs, x, y => by
    simp only [red]
    rw [red_add bs x y]
    funext i
    show (x b.1 + y b.1) * b.2 i + (red bs x i + red bs y i) = x b.1 * b.2 i + red bs x i + (y b.1 * b.2 i + red bs y i)
    grind
theorem red_mul (c : Fin p) : ∀ (bs : List (Nat × Vec p)) (x : Vec p), red bs (mulV c x) = mulV c (red bs x)
  | [], x => by
    simp only [red]
    funext i
    show (0 : Fin p) = c * 0
    grind
  | b :: bs, x => by
    simp only [red]
    rw [red_mul c bs x]
    funext i
    show c * x b.1 * b.2 i + c * red bs x i = c * (x b.1 * b.2 i + red bs x i)
    grind
theorem red_zero (bs : List (Nat × Vec p)) : red bs zeroV = zeroV := by
  have h := red_mul (0 : Fin p) bs zeroV
  have e : mulV (0 : Fin p) (zeroV : Vec p) = zeroV := by
    funext i
    show (0 : Fin p) * 0 = 0
    grind
  rw [e] at h
  rw [h]
  funext i
  show (0 : Fin p) * red bs zeroV i = 0
  grind
theorem red_none : ∀ (l : List (Nat × Vec p)) (x : Vec p), (∀ b ∈ l, x b.1 = 0) → red l x = zeroV
  | [], _, _ => rfl
  | b :: l, x, h => by
    simp only [red]
    rw [red_none l x fun c hc => h c (List.mem_cons_of_mem _ hc), h b List.mem_cons_self]
    funext i
    show (0 : Fin p) * b.2 i + 0 = 0
    grind
theorem red_one : ∀ (l : List (Nat × Vec p)) (b : Nat × Vec p), b ∈ l → l.Pairwise (fun a c => a.1 < c.1) → b.2 b.1 = 1 → (∀ c ∈ l, b.1 ≠ c.1 → b.2 c.1 = 0) → red l b.2 = b.2
  | a :: l, b, hb, inc, h1, h0 => by
    have inc' := List.pairwise_cons.mp inc
    simp only [red]
    rcases List.mem_cons.mp hb with rfl | hb
    · rw [red_none l b.2 fun c hc => h0 c (List.mem_cons_of_mem _ hc) (Nat.ne_of_lt (inc'.1 c hc)), h1]
      funext i
      show (1 : Fin p) * b.2 i + 0 = b.2 i
      grind
    · rw [red_one l b hb inc'.2 h1 fun c hc => h0 c (List.mem_cons_of_mem _ hc), h0 a List.mem_cons_self (Nat.ne_of_gt (inc'.1 b hb))]
      funext i
      show (0 : Fin p) * a.2 i + b.2 i = b.2 i
      grind
/-- a row of the room is told by its rests at the first places -/
theorem PF.told {n : Nat} {bs : List (Nat × Vec p)} (h : PF n bs) {x : Vec p} (hx : Spn (bs.map (·.2)) x) : red bs x = x := by
  have hS : Sub (fun x : Vec p => red bs x = x) := by
    refine ⟨red_zero bs, fun {x y} hx hy => ?_, fun c {x} hx => ?_⟩
    · show red bs (addV x y) = addV x y
      rw [red_add, hx, hy]
    · show red bs (mulV c x) = mulV c x
      rw [red_mul, hx]
  refine spn_le hS (fun v hv => ?_) hx
  obtain ⟨b, hb, rfl⟩ := List.mem_map.mp hv
  exact red_one bs b hb h.inc (h.one b hb) fun c hc ne => h.off b hb c hc ne
theorem spn_red : ∀ (bs : List (Nat × Vec p)) (x : Vec p), Spn (bs.map (·.2)) (red bs x)
  | [], x => (spn_sub _).zero
  | b :: bs, x => (spn_sub _).add ((spn_sub _).mul _ (spn_mem (by simp))) (spn_tail (spn_red bs x))
/-- a first place of a row -/
def Lead (x : Vec p) (j : Nat) : Prop := x j ≠ 0 ∧ ∀ i, i < j → x i = 0
theorem red_low : ∀ (l : List (Nat × Vec p)) (x : Vec p) (j : Nat), (∀ i, i < j → x i = 0) → (∀ b ∈ l, b.1 ≠ j) → (∀ b ∈ l, ∀ i, i < b.1 → b.2 i = 0) → red l x j = 0
  | [], _, _, _, _, _ => rfl
  | b :: l, x, j, hx, hn, hl => by
    have ih := red_low l x j hx (fun c hc => hn c (List.mem_cons_of_mem _ hc)) fun c hc => hl c (List.mem_cons_of_mem _ hc)
    show x b.1 * b.2 j + red l x j = 0
    rw [ih]
    rcases Nat.lt_or_ge b.1 j with h | h
    · rw [hx b.1 h]
      grind
    · have h2 : j < b.1 := Nat.lt_of_le_of_ne h (Ne.symm (hn b List.mem_cons_self))
      rw [hl b List.mem_cons_self j h2]
      grind
theorem PF.lead {n : Nat} {bs : List (Nat × Vec p)} (h : PF n bs) {x : Vec p} {j : Nat} (hx : Spn (bs.map (·.2)) x) (hj : Lead x j) : ∃ b ∈ bs, b.1 = j := by
  apply Classical.byContradiction
  intro hn
  have e := h.told hx
  apply hj.1
  rw [← e]
  exact red_low bs x j hj.2 (fun b hb e => hn ⟨b, hb, e⟩) h.low
theorem PF.leads {n : Nat} {bs : List (Nat × Vec p)} (h : PF n bs) (h1 : (1 : Fin p) ≠ 0) {b : Nat × Vec p} (hb : b ∈ bs) : Lead b.2 b.1 := ⟨by rw [h.one b hb]; exact h1, h.low b hb⟩
theorem sorted_eq : ∀ {l m : List Nat}, l.Pairwise (· < ·) → m.Pairwise (· < ·) → (∀ x, x ∈ l ↔ x ∈ m) → l = m
  | [], [], _, _, _ => rfl
  | [], b :: m, _, _, h => by simpa using (h b).mpr List.mem_cons_self
  | a :: l, [], _, _, h => by simpa using (h a).mp List.mem_cons_self
  | a :: l, b :: m, hl, hm, h => by
    have hl' := List.pairwise_cons.mp hl
    have hm' := List.pairwise_cons.mp hm
    have e : a = b := by
      rcases List.mem_cons.mp ((h a).mp List.mem_cons_self) with e | e
      · exact e
      · rcases List.mem_cons.mp ((h b).mpr List.mem_cons_self) with e2 | e2
        · exact e2.symm
        · have := hm'.1 a e
          have := hl'.1 b e2
          omega
    subst e
    congr 1
    refine sorted_eq hl'.2 hm'.2 fun x => ⟨fun hx => ?_, fun hx => ?_⟩
    · rcases List.mem_cons.mp ((h x).mp (List.mem_cons_of_mem _ hx)) with e | e
      · have := hl'.1 x hx
        omega
      · exact e
    · rcases List.mem_cons.mp ((h x).mpr (List.mem_cons_of_mem _ hx)) with e | e
      · have := hm'.1 x hx
        omega
      · exact e
theorem pairs_eq : ∀ {bs cs : List (Nat × Vec p)}, bs.map (·.1) = cs.map (·.1) → (∀ b ∈ bs, ∀ c ∈ cs, b.1 = c.1 → b.2 = c.2) → bs = cs
  | [], [], _, _ => rfl
  | [], _ :: _, e, _ => by cases e
  | _ :: _, [], e, _ => by cases e
  | b :: bs, c :: cs, e, h => by
    rw [List.map_cons, List.map_cons] at e
    have e1 : b.1 = c.1 := (List.cons.inj e).1
    have e2 := h b List.mem_cons_self c List.mem_cons_self e1
    have e3 : b = c := by
      cases b
      cases c
      simp only at e1 e2
      rw [e1, e2]
    rw [e3, pairs_eq (List.cons.inj e).2 fun x hx y hy => h x (List.mem_cons_of_mem _ hx) y (List.mem_cons_of_mem _ hy)]
/-- each room has just one plain form -/
theorem PF.uniq {n m : Nat} {bs cs : List (Nat × Vec p)} (h1 : (1 : Fin p) ≠ 0) (hb : PF n bs) (hc : PF m cs) (h : ∀ x, Spn (bs.map (·.2)) x ↔ Spn (cs.map (·.2)) x) : bs = cs := by
  have inB : ∀ b ∈ bs, ∃ c ∈ cs, c.1 = b.1 := fun b m => hc.lead ((h _).mp (spn_mem (List.mem_map_of_mem m))) (hb.leads h1 m)
  have inC : ∀ c ∈ cs, ∃ b ∈ bs, b.1 = c.1 := fun c m => hb.lead ((h _).mpr (spn_mem (List.mem_map_of_mem m))) (hc.leads h1 m)
  have ef : bs.map (·.1) = cs.map (·.1) := by
    refine sorted_eq ?_ ?_ fun x => ⟨fun hx => ?_, fun hx => ?_⟩
    · exact List.pairwise_map.mpr hb.inc
    · exact List.pairwise_map.mpr hc.inc
    · obtain ⟨b, m, rfl⟩ := List.mem_map.mp hx
      obtain ⟨c, m', e⟩ := inB b m
      exact List.mem_map.mpr ⟨c, m', e⟩
    · obtain ⟨c, m, rfl⟩ := List.mem_map.mp hx
      obtain ⟨b, m', e⟩ := inC c m
      exact List.mem_map.mpr ⟨b, m', e⟩
  refine pairs_eq ef fun b mb c mc e => ?_
  have hx : Spn (cs.map (·.2)) b.2 := (h _).mp (spn_mem (List.mem_map_of_mem mb))
  have t := hc.told hx
  rw [← t]
  -- b's rests at the first places of cs are those of c
  have key : ∀ l : List (Nat × Vec p), (∀ d ∈ l, b.2 d.1 = c.2 d.1) → red l b.2 = red l c.2 := by
    intro l
    induction l with
    | nil => intro _; rfl
    | cons d l ih =>
      intro hd
      simp only [red]
      rw [hd d List.mem_cons_self, ih fun x hx => hd x (List.mem_cons_of_mem _ hx)]
  rw [key cs fun d md => ?_]
  · exact red_one cs c mc hc.inc (hc.one c mc) fun d md ne => hc.off c mc d md ne
  · by_cases ne : b.1 = d.1
    · rw [← ne, hb.one b mb, e, hc.one c mc]
    · obtain ⟨b', mb', e'⟩ := inC d md
      rw [← e', hb.off b mb b' mb' (by rw [e']; exact ne), e', hc.off c mc d md (by rw [← e]; exact ne)]
theorem red_at : ∀ (l : List (Nat × Vec p)) (x : Vec p) (c : Nat × Vec p), c ∈ l → l.Pairwise (fun a b => a.1 < b.1) → c.2 c.1 = 1 → (∀ b ∈ l, b.1 ≠ c.1 → b.2 c.1 = 0) → red l x c.1 = x c.1
  | a :: l, x, c, hc, inc, h1, h0 => by
    have inc' := List.pairwise_cons.mp inc
    show x a.1 * a.2 c.1 + red l x c.1 = x c.1
    rcases List.mem_cons.mp hc with rfl | hc
    · have z : ∀ m : List (Nat × Vec p), (∀ b ∈ m, b.2 c.1 = 0) → red m x c.1 = 0 := by
        intro m
        induction m with
        | nil => intro _; rfl
        | cons b m ih =>
          intro hm
          show x b.1 * b.2 c.1 + red m x c.1 = 0
          rw [hm b List.mem_cons_self, ih fun y hy => hm y (List.mem_cons_of_mem _ hy)]
          grind
      rw [z l fun b hb => h0 b (List.mem_cons_of_mem _ hb) (Nat.ne_of_gt (inc'.1 b hb)), h1]
      grind
    · rw [red_at l x c hc inc'.2 h1 fun b hb => h0 b (List.mem_cons_of_mem _ hb), h0 a List.mem_cons_self (Nat.ne_of_lt (inc'.1 c hc))]
      grind
theorem PF.at {n : Nat} {bs : List (Nat × Vec p)} (h : PF n bs) (x : Vec p) {c : Nat × Vec p} (hc : c ∈ bs) : red bs x c.1 = x c.1 :=
  red_at bs x c hc h.inc (h.one c hc) fun b hb ne => h.off b hb c hc ne
theorem sorted_len : ∀ {l m : List Nat}, l.Pairwise (· < ·) → m.Pairwise (· < ·) → (∀ x ∈ l, x ∈ m) → l.length ≤ m.length ∧ (m.length ≤ l.length → ∀ x ∈ m, x ∈ l)
  | [], m, _, _, _ => ⟨Nat.zero_le _, fun h x hx => by
      cases m with
      | nil => exact hx
      | cons a b => simp at h⟩
  | a :: l, [], _, _, h => by simpa using h a List.mem_cons_self
  | a :: l, b :: m, hl, hm, h => by
    have hl' := List.pairwise_cons.mp hl
    have hm' := List.pairwise_cons.mp hm
    by_cases e : a = b
    · subst e
      have ih := sorted_len hl'.2 hm'.2 fun x hx => by
        rcases List.mem_cons.mp (h x (List.mem_cons_of_mem _ hx)) with e | e
        · have := hl'.1 x hx
          omega
        · exact e
      refine ⟨by simpa using ih.1, fun hle x hx => ?_⟩
      rcases List.mem_cons.mp hx with rfl | hx
      · exact List.mem_cons_self
      · exact List.mem_cons_of_mem _ (ih.2 (by simpa using hle) x hx)
    · have ha : a ∈ m := by
        rcases List.mem_cons.mp (h a List.mem_cons_self) with z | z
        · exact absurd z e
        · exact z
      have ih := sorted_len (l := a :: l) hl hm'.2 fun x hx => by
        rcases List.mem_cons.mp (h x hx) with z | z
        · rcases List.mem_cons.mp hx with y | y
          · omega
          · have := hl'.1 x y
            have := hm'.1 a ha
            omega
        · exact z
      refine ⟨Nat.le_succ_of_le ih.1, fun hle => ?_⟩
      have := ih.1
      simp only [List.length_cons] at this hle
      omega
theorem PF.firsts_sub {n m : Nat} {bs cs : List (Nat × Vec p)} (hb : PF n bs) (hc : PF m cs) (h1 : (1 : Fin p) ≠ 0) (h : ∀ x, Spn (bs.map (·.2)) x → Spn (cs.map (·.2)) x) : ∀ j ∈ bs.map (·.1), j ∈ cs.map (·.1) := by
  intro j hj
  obtain ⟨b, mb, rfl⟩ := List.mem_map.mp hj
  obtain ⟨c, mc, e⟩ := hc.lead (h _ (spn_mem (List.mem_map_of_mem mb))) (hb.leads h1 mb)
  exact List.mem_map.mpr ⟨c, mc, e⟩
theorem PF.len_le {n m : Nat} {bs cs : List (Nat × Vec p)} (hb : PF n bs) (hc : PF m cs) (h1 : (1 : Fin p) ≠ 0) (h : ∀ x, Spn (bs.map (·.2)) x → Spn (cs.map (·.2)) x) : bs.length ≤ cs.length := by
  have := (sorted_len (List.pairwise_map.mpr hb.inc) (List.pairwise_map.mpr hc.inc) (hb.firsts_sub hc h1 h)).1
  rw [List.length_map, List.length_map] at this
  exact this
/-- one room within another, with as many first places: the same -/
theorem PF.same_of_len {n m : Nat} {bs cs : List (Nat × Vec p)} (hb : PF n bs) (hc : PF m cs) (h1 : (1 : Fin p) ≠ 0) (h : ∀ x, Spn (bs.map (·.2)) x → Spn (cs.map (·.2)) x) (hl : cs.length ≤ bs.length) {x : Vec p} (hx : Spn (cs.map (·.2)) x) : Spn (bs.map (·.2)) x := by
  have back := (sorted_len (List.pairwise_map.mpr hb.inc) (List.pairwise_map.mpr hc.inc) (hb.firsts_sub hc h1 h)).2 (by rw [List.length_map, List.length_map]; exact hl)
  have hy : Spn (cs.map (·.2)) (fun i => x i - 1 * red bs x i) := (spn_sub _).less 1 hx (h _ (spn_red bs x))
  have t := hc.told hy
  have z : red cs (fun i => x i - 1 * red bs x i) = zeroV := red_none cs _ fun c mc => by
    obtain ⟨b, mb, e⟩ := List.mem_map.mp (back c.1 (List.mem_map_of_mem mc))
    have := hb.at x mb
    show x c.1 - 1 * red bs x c.1 = 0
    rw [← e, this]
    grind
  rw [z] at t
  have e : x = red bs x := by
    funext i
    have := congrFun t i
    have this : (0 : Fin p) = x i - 1 * red bs x i := this
    grind
  rw [e]
  exact spn_red bs x
/-! ### taking off, place by place -/
variable (inv : Fin p → Fin p)
def lessV (x own : Vec p) (j : Nat) : Vec p := fun i => x i - x j * own i
def ownV (a : Vec p) (j : Nat) : Vec p := mulV (inv (a j)) a
def stepV (st : List (Vec p) × List (Nat × Vec p)) (k : Nat) : List (Vec p) × List (Nat × Vec p) :=
  match st.1.filter (fun x => decide (x k ≠ 0)) with
  | [] => st
  | a :: _ => (st.1.map fun x => lessV x (ownV inv a k) k, (st.2.map fun b => (b.1, lessV b.2 (ownV inv a k) k)) ++ [(k, ownV inv a k)])
def plainV (n : Nat) (vs : List (Vec p)) : List (Nat × Vec p) := ((List.range n).foldl (stepV inv) (vs, [])).2
structure StepOk (n k : Nat) (vs : List (Vec p)) (st : List (Vec p) × List (Nat × Vec p)) : Prop where
  low : ∀ x ∈ st.1, ∀ i, i < k → x i = 0
  wid : ∀ x ∈ st.1, ∀ i, n ≤ i → x i = 0
  pf : PF n st.2
  below : ∀ b ∈ st.2, b.1 < k
  to : ∀ x, Spn (st.1 ++ st.2.map (·.2)) x → Spn vs x
  from_ : ∀ x, Spn vs x → Spn (st.1 ++ st.2.map (·.2)) x
theorem filter_head {α : Type} {q : α → Bool} {l : List α} {a : α} {r : List α} (h : l.filter q = a :: r) : a ∈ l ∧ q a = true := by
  have : a ∈ l.filter q := by rw [h]; exact List.mem_cons_self
  exact List.mem_filter.mp this
theorem step_ok {n k : Nat} {vs : List (Vec p)} {st : List (Vec p) × List (Nat × Vec p)} (hinv : ∀ a : Fin p, a ≠ 0 → inv a * a = 1) (hk : k < n) (h : StepOk n k vs st) : StepOk n (k + 1) vs (stepV inv st k) := by
  unfold stepV
  split
  · rename_i hf
    refine ⟨fun x hx i hi => ?_, h.wid, h.pf, fun b hb => Nat.lt_succ_of_lt (h.below b hb), h.to, h.from_⟩
    by_cases e : i = k
    · subst e
      apply Classical.byContradiction
      intro hne
      have : x ∈ st.1.filter (fun x => decide (x i ≠ 0)) := List.mem_filter.mpr ⟨hx, decide_eq_true hne⟩
      rw [hf] at this
      cases this
    · exact h.low x hx i (by omega)
  · rename_i a r hf
    obtain ⟨ha, hq⟩ := filter_head hf
    have hak : a k ≠ 0 := of_decide_eq_true hq
    have ok1 : ownV inv a k k = 1 := hinv _ hak
    have okl : ∀ i, i < k → ownV inv a k i = 0 := fun i hi => by
      show inv (a k) * a i = 0
      rw [h.low a ha i hi]
      grind
    have okw : ∀ i, n ≤ i → ownV inv a k i = 0 := fun i hi => by
      show inv (a k) * a i = 0
      rw [h.wid a ha i hi]
      grind
    have less_k : ∀ x : Vec p, lessV x (ownV inv a k) k k = 0 := fun x => by
      show x k - x k * ownV inv a k k = 0
      rw [ok1]
      grind
    have less_lt : ∀ (x : Vec p) i, i < k → lessV x (ownV inv a k) k i = x i := fun x i hi => by
      show x i - x k * ownV inv a k i = x i
      rw [okl i hi]
      grind
    have less_w : ∀ (x : Vec p) i, n ≤ i → x i = 0 → lessV x (ownV inv a k) k i = 0 := fun x i hi hx => by
      show x i - x k * ownV inv a k i = 0
      rw [okw i hi, hx]
      grind
    have own_in : Spn (st.1 ++ st.2.map (·.2)) (ownV inv a k) := (spn_sub _).mul _ (spn_mem (List.mem_append_left _ ha))
    generalize ownV inv a k = own at *
    refine ⟨?_, ?_, ⟨?_, ?_, ?_, ?_, ?_, ?_⟩, ?_, ?_, ?_⟩
    · intro x hx i hi
      obtain ⟨y, my, rfl⟩ := List.mem_map.mp hx
      by_cases e : i = k
      · subst e
        exact less_k y
      · rw [less_lt y i (by omega)]
        exact h.low y my i (by omega)
    · intro x hx i hi
      obtain ⟨y, my, rfl⟩ := List.mem_map.mp hx
      exact less_w y i hi (h.wid y my i hi)
    · refine List.pairwise_append.mpr ⟨?_, List.pairwise_singleton _ _, fun b hb c hc => ?_⟩
      · exact List.pairwise_map.mpr h.pf.inc
      · obtain ⟨b', mb, rfl⟩ := List.mem_map.mp hb
        have : c = (k, own) := by simpa using hc
        subst this
        exact h.below b' mb
    · intro b hb
      rcases List.mem_append.mp hb with hb | hb
      · obtain ⟨b', mb, rfl⟩ := List.mem_map.mp hb
        exact h.pf.lt b' mb
      · have : b = (k, own) := by simpa using hb
        subst this
        exact hk
    · intro b hb
      rcases List.mem_append.mp hb with hb | hb
      · obtain ⟨b', mb, rfl⟩ := List.mem_map.mp hb
        show lessV b'.2 own k b'.1 = 1
        rw [less_lt _ _ (h.below b' mb)]
        exact h.pf.one b' mb
      · have : b = (k, own) := by simpa using hb
        subst this
        exact ok1
    · intro b hb i hi
      rcases List.mem_append.mp hb with hb | hb
      · obtain ⟨b', mb, rfl⟩ := List.mem_map.mp hb
        have hi : i < b'.1 := hi
        show lessV b'.2 own k i = 0
        rw [less_lt _ _ (Nat.lt_trans hi (h.below b' mb))]
        exact h.pf.low b' mb i hi
      · have : b = (k, own) := by simpa using hb
        subst this
        exact okl i hi
    · intro b hb c hc ne
      rcases List.mem_append.mp hb with hb | hb
      · obtain ⟨b', mb, rfl⟩ := List.mem_map.mp hb
        rcases List.mem_append.mp hc with hc | hc
        · obtain ⟨c', mc, rfl⟩ := List.mem_map.mp hc
          show lessV b'.2 own k c'.1 = 0
          rw [less_lt _ _ (h.below c' mc)]
          exact h.pf.off b' mb c' mc ne
        · have : c = (k, own) := by simpa using hc
          subst this
          exact less_k b'.2
      · have : b = (k, own) := by simpa using hb
        subst this
        rcases List.mem_append.mp hc with hc | hc
        · obtain ⟨c', mc, rfl⟩ := List.mem_map.mp hc
          exact okl c'.1 (h.below c' mc)
        · have : c = (k, own) := by simpa using hc
          subst this
          exact absurd rfl ne
    · intro b hb i hi
      rcases List.mem_append.mp hb with hb | hb
      · obtain ⟨b', mb, rfl⟩ := List.mem_map.mp hb
        exact less_w b'.2 i hi (h.pf.wid b' mb i hi)
      · have : b = (k, own) := by simpa using hb
        subst this
        exact okw i hi
    · intro b hb
      rcases List.mem_append.mp hb with hb | hb
      · obtain ⟨b', mb, rfl⟩ := List.mem_map.mp hb
        exact Nat.lt_succ_of_lt (h.below b' mb)
      · have : b = (k, own) := by simpa using hb
        subst this
        exact Nat.lt_succ_self k
    · intro x hx
      refine h.to x (spn_sub_of (fun v hv => ?_) hx)
      rcases List.mem_append.mp hv with hv | hv
      · obtain ⟨y, my, rfl⟩ := List.mem_map.mp hv
        exact (spn_sub _).less (y k) (spn_mem (List.mem_append_left _ my)) own_in
      · obtain ⟨b, mb, rfl⟩ := List.mem_map.mp hv
        rcases List.mem_append.mp mb with mb | mb
        · obtain ⟨b', mb', rfl⟩ := List.mem_map.mp mb
          exact (spn_sub _).less (b'.2 k) (spn_mem (List.mem_append_right _ (List.mem_map_of_mem mb'))) own_in
        · have : b = (k, own) := by simpa using mb
          subst this
          exact own_in
    · intro x hx
      have own_in' : Spn (st.1.map (fun x => lessV x own k) ++ ((st.2.map fun b => (b.1, lessV b.2 own k)) ++ [(k, own)]).map (·.2)) own := spn_mem (by simp)
      have back : ∀ y : Vec p, Spn (st.1.map (fun x => lessV x own k) ++ ((st.2.map fun b => (b.1, lessV b.2 own k)) ++ [(k, own)]).map (·.2)) (lessV y own k) → Spn (st.1.map (fun x => lessV x own k) ++ ((st.2.map fun b => (b.1, lessV b.2 own k)) ++ [(k, own)]).map (·.2)) y := by
        intro y hy
        have := (spn_sub _).add hy ((spn_sub _).mul (y k) own_in')
        have e : addV (lessV y own k) (mulV (y k) own) = y := by
          funext i
          show y i - y k * own i + y k * own i = y i
          grind
        rw [e] at this
        exact this
      refine spn_sub_of (fun v hv => ?_) (h.from_ x hx)
      rcases List.mem_append.mp hv with hv | hv
      · exact back v (spn_mem (List.mem_append_left _ (List.mem_map_of_mem hv)))
      · obtain ⟨b, mb, rfl⟩ := List.mem_map.mp hv
        refine back b.2 (spn_mem (List.mem_append_right _ ?_))
        refine List.mem_map.mpr ⟨(b.1, lessV b.2 own k), List.mem_append_left _ (List.mem_map.mpr ⟨b, mb, rfl⟩), rfl⟩
theorem steps_ok {n : Nat} {vs : List (Vec p)} (hinv : ∀ a : Fin p, a ≠ 0 → inv a * a = 1) (hw : ∀ x ∈ vs, ∀ i, n ≤ i → x i = 0) : ∀ k, k ≤ n → StepOk n k vs ((List.range k).foldl (stepV inv) (vs, []))
  | 0, _ => by
    refine ⟨fun x _ i hi => absurd hi (Nat.not_lt_zero i), hw, ⟨.nil, fun b h => (nomatch h), fun b h => (nomatch h), fun b h => (nomatch h), fun b h => (nomatch h), fun b h => (nomatch h)⟩, fun b h => (nomatch h), fun x hx => ?_, fun x hx => ?_⟩
    · simpa using hx
    · simpa using hx
  | k + 1, hk => by
    rw [List.range_succ, List.foldl_append]
    exact step_ok inv hinv (by omega) (steps_ok hinv hw k (by omega))
/-- taking off, place by place, tells the plain form of what the rows make -/
theorem plainV_pf {n : Nat} {vs : List (Vec p)} (hinv : ∀ a : Fin p, a ≠ 0 → inv a * a = 1) (hw : ∀ x ∈ vs, ∀ i, n ≤ i → x i = 0) : PF n (plainV inv n vs) := (steps_ok inv hinv hw n (Nat.le_refl n)).pf
theorem plainV_spn {n : Nat} {vs : List (Vec p)} (hinv : ∀ a : Fin p, a ≠ 0 → inv a * a = 1) (hw : ∀ x ∈ vs, ∀ i, n ≤ i → x i = 0) (x : Vec p) : Spn ((plainV inv n vs).map (·.2)) x ↔ Spn vs x := by
  have h := steps_ok inv hinv hw n (Nat.le_refl n)
  constructor
  · intro hx
    refine h.to x (spn_sub_of (fun v hv => spn_mem (List.mem_append_right _ hv)) hx)
  · intro hx
    refine spn_sub_of (fun v hv => ?_) (h.from_ x hx)
    rcases List.mem_append.mp hv with hv | hv
    · have e : v = zeroV := by
        funext i
        rcases Nat.lt_or_ge i n with hi | hi
        · exact h.low v hv i hi
        · exact h.wid v hv i hi
      rw [e]
      exact (spn_sub _).zero
    · exact spn_mem hv
theorem spn_append {vs ws : List (Vec p)} {S : Vec p → Prop} (hS : Sub S) (h1 : ∀ x, Spn vs x → S x) (h2 : ∀ x, Spn ws x → S x) (x : Vec p) (hx : Spn (vs ++ ws) x) : S x :=
  spn_le hS (fun v hv => (List.mem_append.mp hv).elim (fun h => h1 v (spn_mem h)) fun h => h2 v (spn_mem h)) hx
theorem spn_left {vs ws : List (Vec p)} {x : Vec p} (h : Spn vs x) : Spn (vs ++ ws) x := spn_sub_of (fun v hv => spn_mem (List.mem_append_left _ hv)) h
theorem spn_right {vs ws : List (Vec p)} {x : Vec p} (h : Spn ws x) : Spn (vs ++ ws) x := spn_sub_of (fun v hv => spn_mem (List.mem_append_right _ hv)) h
/-- a row more: as many rows as before just where it is made by them -/
theorem plainV_has {n : Nat} {vs : List (Vec p)} {v : Vec p} (h1 : (1 : Fin p) ≠ 0) (hinv : ∀ a : Fin p, a ≠ 0 → inv a * a = 1) (hw : ∀ x ∈ vs, ∀ i, n ≤ i → x i = 0) (hv : ∀ i, n ≤ i → v i = 0) :
    (plainV inv n (vs ++ [v])).length = (plainV inv n vs).length ↔ Spn vs v := by
  have hw' : ∀ x ∈ vs ++ [v], ∀ i, n ≤ i → x i = 0 := fun x hx => by
    rcases List.mem_append.mp hx with h | h
    · exact hw x h
    · have : x = v := by simpa using h
      rw [this]
      exact hv
  have A := plainV_pf inv hinv hw
  have B := plainV_pf inv hinv hw'
  have sa := plainV_spn inv hinv hw
  have sb := plainV_spn inv hinv hw'
  constructor
  · intro e
    have := A.same_of_len B h1 (fun x hx => (sb x).mpr (spn_left ((sa x).mp hx))) (Nat.le_of_eq e) ((sb v).mpr (spn_right (spn_mem (by simp))))
    exact (sa v).mp this
  · intro hs
    have same : ∀ x, Spn (vs ++ [v]) x ↔ Spn vs x := fun x => ⟨fun hx => spn_append (spn_sub vs) (fun _ h => h) (fun y hy => spn_sub_of (fun z hz => by
      have : z = v := by simpa using hz
      rw [this]
      exact hs) hy) x hx, spn_left⟩
    rw [B.uniq h1 A fun x => (sb x).trans ((same x).trans (sa x).symm)]
theorem plainV_len_le {n : Nat} {vs ws : List (Vec p)} (h1 : (1 : Fin p) ≠ 0) (hinv : ∀ a : Fin p, a ≠ 0 → inv a * a = 1) (hv : ∀ x ∈ vs, ∀ i, n ≤ i → x i = 0) (hw : ∀ x ∈ ws, ∀ i, n ≤ i → x i = 0) (h : ∀ x, Spn vs x → Spn ws x) : (plainV inv n vs).length ≤ (plainV inv n ws).length :=
  (plainV_pf inv hinv hv).len_le (plainV_pf inv hinv hw) h1 fun x hx => (plainV_spn inv hinv hw x).mpr (h x ((plainV_spn inv hinv hv x).mp hx))
end
end Lin
/-! rows of ints mod p as vectors; the law's own taking off -/
namespace OC
set_option linter.all false
open Lin
def ctr (p a : Int) : Int := (((List.range p.toNat).map fun (b : Nat) => (b : Int)).filter fun b => decide (a * b % p = 1)).headD 0
def lessR (p : Int) (x y : List Int) (j : Nat) : List Int := List.zipWith (fun r m => (r - x.getD j 0 * m) % p) x y
def ownR (p : Int) (a : List Int) (j : Nat) : List Int := a.map fun r => ctr p (a.getD j 0) * r % p
def stepR (p : Int) (st : List (List Int) × List (List Int)) (k : Nat) : List (List Int) × List (List Int) :=
  match st.1.filter (fun r => decide (r.getD k 0 ≠ 0)) with
  | [] => st
  | a :: _ => (st.1.map fun r => lessR p r (ownR p a k) k, (st.2.map fun r => lessR p r (ownR p a k) k) ++ [ownR p a k])
def plainR (p : Int) (n : Nat) (rows : List (List Int)) : List (List Int) := ((List.range n).foldl (stepR p) (rows, [])).2
/-- each rest but 0 has a contrary one -/
def Fld (p : Int) : Prop := 2 ≤ p ∧ ∀ a : Int, 1 ≤ a → a < p → ∃ b : Int, 1 ≤ b ∧ b < p ∧ a * b % p = 1
theorem ctr_ok {p a : Int} (h : Fld p) (h0 : 1 ≤ a) (h1 : a < p) : 0 ≤ ctr p a ∧ ctr p a < p ∧ a * ctr p a % p = 1 := by
  obtain ⟨b, b1, b2, b3⟩ := h.2 a h0 h1
  unfold ctr
  generalize hl : ((List.range p.toNat).map fun (b : Nat) => (b : Int)).filter (fun b => decide (a * b % p = 1)) = l
  have mem : ∀ x ∈ l, 0 ≤ x ∧ x < p ∧ a * x % p = 1 := by
    intro x hx
    rw [← hl] at hx
    obtain ⟨hx, hq⟩ := List.mem_filter.mp hx
    obtain ⟨i, hi, rfl⟩ := List.mem_map.mp hx
    have := List.mem_range.mp hi
    exact ⟨by omega, by omega, of_decide_eq_true hq⟩
  cases l with
  | nil =>
    have : b ∈ ((List.range p.toNat).map fun (b : Nat) => (b : Int)).filter (fun b => decide (a * b % p = 1)) := List.mem_filter.mpr ⟨List.mem_map.mpr ⟨b.toNat, List.mem_range.mpr (by omega), by omega⟩, decide_eq_true b3⟩
    rw [hl] at this
    cases this
  | cons x r => exact mem x List.mem_cons_self
theorem gd_lt {r : List Int} {i : Nat} (h : i < r.length) : r.getD i 0 = r[i] := by
  rw [List.getD_eq_getElem?_getD, List.getElem?_eq_getElem h]
  rfl
theorem gd_ge {r : List Int} {i : Nat} (h : r.length ≤ i) : r.getD i 0 = 0 := by
  rw [List.getD_eq_getElem?_getD, List.getElem?_eq_none h]
  rfl
section
variable {q : Nat} [NeZero q]
theorem q_pos : (0 : Int) < q := by
  have := Nat.pos_of_ne_zero (NeZero.ne q)
  omega
def cF (x : Int) : Fin q := ⟨(x % q).toNat, by
  have h1 := Int.emod_lt_of_pos x (q_pos (q := q))
  have h2 := Int.emod_nonneg x (show (q : Int) ≠ 0 by have := q_pos (q := q); omega)
  omega⟩
theorem cF_val (x : Int) : ((cF (q := q) x).val : Int) = x % q := by
  show (((x % q).toNat : Nat) : Int) = x % q
  exact Int.toNat_of_nonneg (Int.emod_nonneg x (by have := q_pos (q := q); omega))
theorem fin_ext_int {a b : Fin q} (h : (a.val : Int) = (b.val : Int)) : a = b := Fin.ext (by omega)
theorem cF_add (x y : Int) : cF (q := q) (x + y) = cF x + cF y := by
  apply fin_ext_int
  rw [cF_val, Fin.val_add, Int.natCast_emod, Int.natCast_add, cF_val, cF_val, ← Int.add_emod]
theorem cF_mul (x y : Int) : cF (q := q) (x * y) = cF x * cF y := by
  apply fin_ext_int
  rw [cF_val, Fin.val_mul, Int.natCast_emod, Int.natCast_mul, cF_val, cF_val, ← Int.mul_emod]
theorem cF_mod (x : Int) : cF (q := q) (x % q) = cF x := by
  apply fin_ext_int
  rw [cF_val, cF_val, Int.emod_emod]
theorem cF_zero : cF (q := q) 0 = 0 := by
  have h := cF_add (q := q) 0 0
  rw [Int.add_zero] at h
  grind
theorem cF_sub (x y : Int) : cF (q := q) (x - y) = cF x - cF y := by
  have h := cF_add (q := q) (x - y) y
  rw [Int.sub_add_cancel] at h
  grind
theorem cF_inj {x y : Int} (hx : 0 ≤ x ∧ x < q) (hy : 0 ≤ y ∧ y < q) (h : cF (q := q) x = cF y) : x = y := by
  have h1 := congrArg (fun a : Fin q => (a.val : Int)) h
  simp only [cF_val] at h1
  rw [Int.emod_eq_of_lt hx.1 hx.2, Int.emod_eq_of_lt hy.1 hy.2] at h1
  exact h1
theorem cF_ne {x : Int} (hx : 0 ≤ x ∧ x < q) : cF (q := q) x ≠ 0 ↔ x ≠ 0 := by
  constructor
  · intro h e
    rw [e] at h
    exact h cF_zero
  · intro h e
    rw [← cF_zero] at e
    exact h (cF_inj hx ⟨by omega, by omega⟩ e)
theorem cF_one (h : 2 ≤ q) : cF (q := q) 1 = 1 := by
  apply fin_ext_int
  rw [cF_val, Int.emod_eq_of_lt (by omega) (by omega)]
  have : (1 : Fin q).val = 1 % q := rfl
  rw [this, Nat.mod_eq_of_lt (by omega)]
  rfl
theorem one_ne (h : 2 ≤ q) : (1 : Fin q) ≠ 0 := by
  rw [← cF_one h]
  exact (cF_ne ⟨by omega, by omega⟩).mpr (by omega)
/-- a row as a vector -/
def toV (r : List Int) : Vec q := fun i => cF (r.getD i 0)
def RowsOk (p : Int) (n : Nat) (rows : List (List Int)) : Prop := ∀ r ∈ rows, r.length = n ∧ ∀ x ∈ r, 0 ≤ x ∧ x < p
def invF (f : Fin q) : Fin q := cF (ctr q (f.val : Int))
theorem invF_ok (h : Fld (q : Int)) : ∀ a : Fin q, a ≠ 0 → invF a * a = 1 := by
  intro a ha
  have hv : 1 ≤ (a.val : Int) := by
    have : a.val ≠ 0 := fun e => ha (Fin.ext (by rw [e]; rfl))
    omega
  obtain ⟨_, _, h3⟩ := ctr_ok h hv (by have := a.isLt; omega)
  have e : a = cF (q := q) (a.val : Int) := by
    apply fin_ext_int
    rw [cF_val, Int.emod_eq_of_lt (by omega) (by have := a.isLt; omega)]
  have h2 : (2 : Int) ≤ q := h.1
  show cF (ctr q (a.val : Int)) * a = 1
  rw [show cF (q := q) (ctr q (a.val : Int)) * a = cF (ctr q (a.val : Int)) * cF (a.val : Int) by rw [← e], ← cF_mul, ← cF_mod, Int.mul_comm, h3, cF_one (by omega)]
theorem getD_lt {r : List Int} {p : Int} (hp : 0 < p) (h : ∀ x ∈ r, 0 ≤ x ∧ x < p) (i : Nat) : 0 ≤ r.getD i 0 ∧ r.getD i 0 < p := by
  by_cases hi : i < r.length
  · rw [gd_lt hi]
    exact h _ (List.getElem_mem hi)
  · rw [gd_ge (by omega)]
    omega
theorem toV_wid {r : List Int} {n : Nat} (h : r.length = n) (i : Nat) (hi : n ≤ i) : toV (q := q) r i = 0 := by
  show cF (r.getD i 0) = 0
  rw [gd_ge (by omega), cF_zero]
theorem toV_inj {x y : List Int} (hl : x.length = y.length) (hx : ∀ v ∈ x, 0 ≤ v ∧ v < (q : Int)) (hy : ∀ v ∈ y, 0 ≤ v ∧ v < (q : Int)) (h : toV (q := q) x = toV y) : x = y := by
  apply List.ext_getElem hl
  intro i h1 h2
  have e := congrFun h i
  have e : cF (q := q) (x.getD i 0) = cF (y.getD i 0) := e
  rw [gd_lt h1, gd_lt h2] at e
  exact cF_inj (hx _ (List.getElem_mem h1)) (hy _ (List.getElem_mem h2)) e
theorem getD_zipWith (f : Int → Int → Int) {x y : List Int} (h : x.length = y.length) {i : Nat} (hi : i < x.length) : (List.zipWith f x y).getD i 0 = f (x.getD i 0) (y.getD i 0) := by
  rw [gd_lt (by rw [List.length_zipWith]; omega), List.getElem_zipWith, gd_lt hi, gd_lt (by omega)]
theorem toV_less {x y : List Int} (h : x.length = y.length) (j : Nat) : toV (q := q) (lessR q x y j) = lessV (toV x) (toV y) j := by
  funext i
  show cF ((lessR q x y j).getD i 0) = cF (x.getD i 0) - cF (x.getD j 0) * cF (y.getD i 0)
  by_cases hi : i < x.length
  · unfold lessR
    rw [getD_zipWith _ h hi, cF_mod, cF_sub, cF_mul]
  · rw [gd_ge (by unfold lessR; rw [List.length_zipWith]; omega), gd_ge (r := x) (by omega), gd_ge (r := y) (by omega), cF_zero]
    grind
theorem toV_own {a : List Int} (ha : ∀ v ∈ a, 0 ≤ v ∧ v < (q : Int)) (j : Nat) : toV (q := q) (ownR q a j) = ownV invF (toV a) j := by
  funext i
  have hj := getD_lt q_pos ha j
  have ev : ((cF (q := q) (a.getD j 0)).val : Int) = a.getD j 0 := by rw [cF_val, Int.emod_eq_of_lt hj.1 hj.2]
  show cF ((ownR q a j).getD i 0) = cF (ctr q ((cF (q := q) (a.getD j 0)).val : Int)) * cF (a.getD i 0)
  rw [ev]
  by_cases hi : i < a.length
  · unfold ownR
    rw [gd_lt (by rw [List.length_map]; exact hi), List.getElem_map, cF_mod, cF_mul, gd_lt (r := a) hi]
  · rw [gd_ge (by unfold ownR; rw [List.length_map]; omega), gd_ge (r := a) (i := i) (by omega), cF_zero]
    grind
theorem less_row {p : Int} (hp : 0 < p) {x y : List Int} {n : Nat} (hx : x.length = n) (hy : y.length = n) (j : Nat) : (lessR p x y j).length = n ∧ ∀ v ∈ lessR p x y j, 0 ≤ v ∧ v < p := by
  refine ⟨by unfold lessR; rw [List.length_zipWith]; omega, fun v hv => ?_⟩
  unfold lessR at hv
  rw [List.mem_iff_getElem?] at hv
  obtain ⟨i, hi⟩ := hv
  rw [List.getElem?_zipWith] at hi
  split at hi
  · cases Option.some.inj hi
    exact ⟨Int.emod_nonneg _ (by omega), Int.emod_lt_of_pos _ hp⟩
  · cases hi
theorem own_row {p : Int} (hp : 0 < p) {a : List Int} {n : Nat} (ha : a.length = n) (j : Nat) : (ownR p a j).length = n ∧ ∀ v ∈ ownR p a j, 0 ≤ v ∧ v < p := by
  refine ⟨by unfold ownR; rw [List.length_map]; exact ha, fun v hv => ?_⟩
  unfold ownR at hv
  obtain ⟨r, _, rfl⟩ := List.mem_map.mp hv
  exact ⟨Int.emod_nonneg _ (by omega), Int.emod_lt_of_pos _ hp⟩
theorem step_rows {p : Int} (hp : 0 < p) {n : Nat} {st : List (List Int) × List (List Int)} (h1 : RowsOk p n st.1) (h2 : RowsOk p n st.2) (k : Nat) : RowsOk p n (stepR p st k).1 ∧ RowsOk p n (stepR p st k).2 ∧ (stepR p st k).1.length = st.1.length ∧ (stepR p st k).2.length ≤ st.2.length + 1 := by
  unfold stepR
  split
  · exact ⟨h1, h2, rfl, by omega⟩
  · rename_i a r hf
    obtain ⟨ha, _⟩ := filter_head hf
    have ho := own_row hp (h1 a ha).1 k
    refine ⟨fun x hx => ?_, fun x hx => ?_, by rw [List.length_map], by rw [List.length_append, List.length_map]; simp⟩
    · obtain ⟨y, my, rfl⟩ := List.mem_map.mp hx
      exact less_row hp (h1 y my).1 ho.1 k
    · rcases List.mem_append.mp hx with hx | hx
      · obtain ⟨y, my, rfl⟩ := List.mem_map.mp hx
        exact less_row hp (h2 y my).1 ho.1 k
      · have : x = ownR p a k := by simpa using hx
        rw [this]
        exact ho
/-- the steps of both sides -/
theorem step_sim {n : Nat} {st : List (List Int) × List (List Int)} {sv : List (Vec q) × List (Nat × Vec q)} (h1 : RowsOk q n st.1) (h2 : RowsOk q n st.2) (e1 : st.1.map (toV (q := q)) = sv.1) (e2 : st.2.map (toV (q := q)) = sv.2.map (·.2)) (k : Nat) :
    (stepR q st k).1.map (toV (q := q)) = (stepV invF sv k).1 ∧ (stepR q st k).2.map (toV (q := q)) = (stepV invF sv k).2.map (·.2) := by
  have hf : sv.1.filter (fun x => decide (x k ≠ 0)) = (st.1.filter (fun r => decide (r.getD k 0 ≠ 0))).map (toV (q := q)) := by
    rw [← e1, List.filter_map]
    congr 1
    apply List.filter_congr
    intro r hr
    have := cF_ne (q := q) (getD_lt q_pos (h1 r hr).2 k)
    show decide (cF (q := q) (r.getD k 0) ≠ 0) = decide (r.getD k 0 ≠ 0)
    simp only [this]
  unfold stepR stepV
  rw [hf]
  cases hl : st.1.filter (fun r => decide (r.getD k 0 ≠ 0)) with
  | nil => exact ⟨e1, e2⟩
  | cons a r =>
    obtain ⟨ha, _⟩ := filter_head hl
    have ho := own_row (q_pos (q := q)) (h1 a ha).1 k
    have eo : toV (q := q) (ownR q a k) = ownV invF (toV a) k := toV_own (h1 a ha).2 k
    simp only [List.map_cons]
    constructor
    · rw [← e1, List.map_map, List.map_map]
      apply List.map_congr_left
      intro x hx
      show toV (lessR q x (ownR q a k) k) = lessV (toV x) (ownV invF (toV a) k) k
      rw [toV_less (by rw [(h1 x hx).1, ho.1]), eo]
    · rw [List.map_append, List.map_append, List.map_map, List.map_map, List.map_cons, List.map_cons, List.map_nil, List.map_nil, eo]
      congr 1
      have e3 : sv.2.map ((fun b : Nat × Vec q => b.2) ∘ fun b => (b.1, lessV b.2 (ownV invF (toV a) k) k)) = (sv.2.map (·.2)).map fun v => lessV v (ownV invF (toV a) k) k := by
        rw [List.map_map]
        rfl
      rw [e3, ← e2, List.map_map]
      apply List.map_congr_left
      intro x hx
      show toV (lessR q x (ownR q a k) k) = lessV (toV x) (ownV invF (toV a) k) k
      rw [toV_less (by rw [(h2 x hx).1, ho.1]), eo]
theorem steps_sim {n : Nat} {rows : List (List Int)} (h : RowsOk q n rows) : ∀ k, RowsOk q n ((List.range k).foldl (stepR q) (rows, [])).1 ∧ RowsOk q n ((List.range k).foldl (stepR q) (rows, [])).2 ∧
    ((List.range k).foldl (stepR q) (rows, [])).1.map (toV (q := q)) = ((List.range k).foldl (stepV invF) (rows.map (toV (q := q)), [])).1 ∧ ((List.range k).foldl (stepR q) (rows, [])).2.map (toV (q := q)) = ((List.range k).foldl (stepV invF) (rows.map (toV (q := q)), [])).2.map (·.2)
  | 0 => ⟨h, fun r hr => (nomatch hr), rfl, rfl⟩
  | k + 1 => by
    obtain ⟨a, b, c, d⟩ := steps_sim h k
    rw [List.range_succ, List.foldl_append, List.foldl_append]
    obtain ⟨e1, e2, _, _⟩ := step_rows q_pos a b k
    obtain ⟨f1, f2⟩ := step_sim a b c d k
    exact ⟨e1, e2, f1, f2⟩
theorem plainR_rows {n : Nat} {rows : List (List Int)} (h : RowsOk q n rows) : RowsOk q n (plainR q n rows) := (steps_sim h n).2.1
theorem plainR_eq {n : Nat} {rows : List (List Int)} (h : RowsOk q n rows) : (plainR q n rows).map (toV (q := q)) = (plainV invF n (rows.map (toV (q := q)))).map (·.2) := (steps_sim h n).2.2.2
theorem rows_wid {n : Nat} {rows : List (List Int)} (h : RowsOk q n rows) : ∀ x ∈ rows.map (toV (q := q)), ∀ i, n ≤ i → x i = 0 := by
  intro x hx i hi
  obtain ⟨r, mr, rfl⟩ := List.mem_map.mp hx
  exact toV_wid (h r mr).1 i hi
/-- what rows make -/
def Mk (q : Nat) [NeZero q] (rows : List (List Int)) (x : Vec q) : Prop := Spn (rows.map (toV (q := q))) x
/-- a plain form -/
def IsPF (q : Nat) [NeZero q] (n : Nat) (room : List (List Int)) : Prop := RowsOk q n room ∧ ∃ bs : List (Nat × Vec q), PF n bs ∧ bs.map (·.2) = room.map (toV (q := q))
theorem plainR_pf (hF : Fld (q : Int)) {n : Nat} {rows : List (List Int)} (h : RowsOk q n rows) : IsPF q n (plainR q n rows) := ⟨plainR_rows h, _, plainV_pf invF (invF_ok hF) (rows_wid h), (plainR_eq h).symm⟩
theorem plainR_mk (hF : Fld (q : Int)) {n : Nat} {rows : List (List Int)} (h : RowsOk q n rows) (x : Vec q) : Mk q (plainR q n rows) x ↔ Mk q rows x := by
  unfold Mk
  rw [plainR_eq h]
  exact plainV_spn invF (invF_ok hF) (rows_wid h) x
theorem map_inj {n : Nat} : ∀ {xs ys : List (List Int)}, RowsOk q n xs → RowsOk q n ys → xs.map (toV (q := q)) = ys.map (toV (q := q)) → xs = ys
  | [], [], _, _, _ => rfl
  | [], _ :: _, _, _, e => by cases e
  | _ :: _, [], _, _, e => by cases e
  | x :: xs, y :: ys, hx, hy, e => by
    rw [List.map_cons, List.map_cons] at e
    have h1 := hx x List.mem_cons_self
    have h2 := hy y List.mem_cons_self
    have e1 : x = y := toV_inj (by rw [h1.1, h2.1]) h1.2 h2.2 (List.cons.inj e).1
    rw [e1, map_inj (fun r hr => hx r (List.mem_cons_of_mem _ hr)) (fun r hr => hy r (List.mem_cons_of_mem _ hr)) (List.cons.inj e).2]
/-- each room has just one plain form -/
theorem IsPF.uniq (hF : Fld (q : Int)) {n : Nat} {one other : List (List Int)} (h1 : IsPF q n one) (h2 : IsPF q n other) (h : ∀ x, Mk q one x ↔ Mk q other x) : one = other := by
  obtain ⟨r1, bs, b1, e1⟩ := h1
  obtain ⟨r2, cs, c1, e2⟩ := h2
  have h2' : (2 : Int) ≤ q := hF.1
  have e := b1.uniq (one_ne (by omega)) c1 fun x => by
    rw [e1, e2]
    exact h x
  exact map_inj r1 r2 (by rw [← e1, ← e2, e])
theorem IsPF.plain (hF : Fld (q : Int)) {n : Nat} {room rows : List (List Int)} (h1 : IsPF q n room) (h : RowsOk q n rows) (hm : ∀ x, Mk q room x ↔ Mk q rows x) : room = plainR q n rows :=
  h1.uniq hF (plainR_pf hF h) fun x => (hm x).trans (plainR_mk hF h x).symm
theorem plainR_len {n : Nat} {rows : List (List Int)} (h : RowsOk q n rows) : (plainR q n rows).length = (plainV invF n (rows.map (toV (q := q)))).length := by
  have := congrArg List.length (plainR_eq h)
  rw [List.length_map, List.length_map] at this
  exact this
theorem plainR_has (hF : Fld (q : Int)) {n : Nat} {rows : List (List Int)} {r : List Int} (h : RowsOk q n rows) (hr : RowsOk q n [r]) : (plainR q n (rows ++ [r])).length = (plainR q n rows).length ↔ Mk q rows (toV r) := by
  have h2 : (2 : Int) ≤ q := hF.1
  have hr' := hr r List.mem_cons_self
  have hall : RowsOk q n (rows ++ [r]) := fun x hx => by
    rcases List.mem_append.mp hx with h' | h'
    · exact h x h'
    · exact hr x h'
  rw [plainR_len h, plainR_len hall, List.map_append, List.map_cons, List.map_nil]
  exact plainV_has invF (one_ne (by omega)) (invF_ok hF) (rows_wid h) fun i hi => toV_wid hr'.1 i hi
end
end OC
/-! a row more: one first place more, or none; worlds that part -/
namespace Lin
set_option linter.all false
section
variable {p : Nat} [NeZero p]
theorem exists_lead {x : Vec p} : ∀ (j : Nat), x j ≠ 0 → ∃ k, k ≤ j ∧ Lead x k := by
  intro j
  induction j using Nat.strongRecOn with
  | _ j ih =>
    intro h
    by_cases hz : ∀ i, i < j → x i = 0
    · exact ⟨j, Nat.le_refl j, h, hz⟩
    · obtain ⟨i, hi⟩ := Classical.not_forall.mp hz
      have hi' : i < j ∧ x i ≠ 0 := Classical.not_imp.mp hi
      obtain ⟨k, hk, l⟩ := ih i hi'.1 hi'.2
      exact ⟨k, by omega, l⟩
/-- x less what the rows tell of it -/
def leftV (bs : List (Nat × Vec p)) (x : Vec p) : Vec p := fun i => x i - red bs x i
theorem left_at {n : Nat} {bs : List (Nat × Vec p)} (h : PF n bs) (x : Vec p) {c : Nat × Vec p} (hc : c ∈ bs) : leftV bs x c.1 = 0 := by
  show x c.1 - red bs x c.1 = 0
  rw [h.at x hc]
  grind
theorem left_zero {n : Nat} {bs : List (Nat × Vec p)} (h : PF n bs) (x : Vec p) : leftV bs x = zeroV ↔ Spn (bs.map (·.2)) x := by
  constructor
  · intro e
    have : x = red bs x := by
      funext i
      have h0 := congrFun e i
      have h0 : x i - red bs x i = 0 := h0
      grind
    rw [this]
    exact spn_red bs x
  · intro hx
    funext i
    show x i - red bs x i = 0
    rw [h.told hx]
    grind
/-- sums of a row of the room and of so many of v -/
theorem spn_more {vs : List (Vec p)} {v x : Vec p} (hx : Spn (vs ++ [v]) x) : ∃ s c, Spn vs s ∧ x = addV s (mulV c v) := by
  have hS : Sub (fun x : Vec p => ∃ s c, Spn vs s ∧ x = addV s (mulV c v)) := by
    refine ⟨⟨zeroV, 0, (spn_sub vs).zero, ?_⟩, ?_, ?_⟩
    · funext i
      show (0 : Fin p) = 0 + 0 * v i
      grind
    · rintro x y ⟨s, c, hs, rfl⟩ ⟨t, d, ht, rfl⟩
      refine ⟨addV s t, c + d, (spn_sub vs).add hs ht, ?_⟩
      funext i
      show s i + c * v i + (t i + d * v i) = s i + t i + (c + d) * v i
      grind
    · rintro d x ⟨s, c, hs, rfl⟩
      refine ⟨mulV d s, d * c, (spn_sub vs).mul d hs, ?_⟩
      funext i
      show d * (s i + c * v i) = d * s i + d * c * v i
      grind
  refine spn_le hS (fun w hw => ?_) hx
  rcases List.mem_append.mp hw with h | h
  · refine ⟨w, 0, spn_mem h, ?_⟩
    funext i
    show w i = w i + 0 * v i
    grind
  · have : w = v := by simpa using h
    subst this
    refine ⟨zeroV, 1, (spn_sub vs).zero, ?_⟩
    funext i
    show w i = 0 + 1 * w i
    grind
/-- the first places of a row of the greater room -/
theorem lead_more {n : Nat} {bs : List (Nat × Vec p)} (h : PF n bs) {v : Vec p} {j k : Nat} {x : Vec p} (hj : Lead (leftV bs v) j) (hfld : ∀ a b : Fin p, a * b = 0 → a = 0 ∨ b = 0) (hx : Spn (bs.map (·.2) ++ [v]) x) (hk : Lead x k) : (∃ b ∈ bs, b.1 = k) ∨ k = j := by
  obtain ⟨s, c, hs, rfl⟩ := spn_more hx
  -- with the left of v in its place
  have e : addV s (mulV c v) = addV (addV s (mulV c (red bs v))) (mulV c (leftV bs v)) := by
    funext i
    show s i + c * v i = s i + c * red bs v i + c * (v i - red bs v i)
    grind
  have hs' : Spn (bs.map (·.2)) (addV s (mulV c (red bs v))) := (spn_sub _).add hs ((spn_sub _).mul c (spn_red bs v))
  rw [e] at hk
  generalize addV s (mulV c (red bs v)) = t at hs' hk
  by_cases hc : c = 0
  · subst hc
    have e2 : addV t (mulV 0 (leftV bs v)) = t := by
      funext i
      show t i + 0 * leftV bs v i = t i
      grind
    rw [e2] at hk
    exact .inl (h.lead hs' hk)
  · have val : ∀ i, addV t (mulV c (leftV bs v)) i = t i + c * leftV bs v i := fun _ => rfl
    rcases Nat.lt_trichotomy k j with hlt | heq | hgt
    · have lt : Lead t k := by
        refine ⟨?_, fun i hi => ?_⟩
        · have h1 := hk.1
          rw [val, hj.2 k hlt] at h1
          intro z
          apply h1
          rw [z]
          grind
        · have h1 := hk.2 i hi
          rw [val, hj.2 i (by omega)] at h1
          grind
      exact .inl (h.lead hs' lt)
    · exact .inr heq
    · have lt : Lead t j := by
        refine ⟨fun z => ?_, fun i hi => ?_⟩
        · have h1 := hk.2 j hgt
          rw [val, z] at h1
          have h2 : c * leftV bs v j = 0 := by grind
          rcases hfld _ _ h2 with h3 | h3
          · exact hc h3
          · exact hj.1 h3
        · have h1 := hk.2 i (by omega)
          rw [val, hj.2 i hi] at h1
          grind
      obtain ⟨b, mb, eb⟩ := h.lead hs' lt
      have := left_at h v mb
      rw [eb] at this
      exact absurd this hj.1
theorem sorted_more {l m : List Nat} {j : Nat} (hl : l.Pairwise (· < ·)) (hm : m.Pairwise (· < ·)) (h : ∀ x ∈ l, x ∈ m ∨ x = j) : l.length ≤ m.length + 1 := by
  have nd : l.Nodup := hl.imp fun h => Nat.ne_of_lt h
  have s := List.erase_sublist (a := j) (l := l)
  have h1 := (sorted_len (hl.sublist s) hm fun x hx => by
    rcases h x (List.mem_of_mem_erase hx) with h | h
    · exact h
    · subst h
      exact absurd hx (List.Nodup.not_mem_erase nd)).1
  have h2 := List.length_erase (a := j) (l := l)
  split at h2 <;> omega
variable (inv : Fin p → Fin p)
/-- a row more that is not made: one row more -/
theorem plainV_more {n : Nat} {vs : List (Vec p)} {v : Vec p} (h1 : (1 : Fin p) ≠ 0) (hinv : ∀ a : Fin p, a ≠ 0 → inv a * a = 1) (hw : ∀ x ∈ vs, ∀ i, n ≤ i → x i = 0) (hv : ∀ i, n ≤ i → v i = 0) (hn : ¬ Spn vs v) :
    (plainV inv n (vs ++ [v])).length = (plainV inv n vs).length + 1 := by
  have hfld : ∀ a b : Fin p, a * b = 0 → a = 0 ∨ b = 0 := fun a b e => by
    by_cases ha : a = 0
    · exact .inl ha
    · have := hinv a ha
      refine .inr ?_
      have : b = inv a * (a * b) := by grind
      rw [e] at this
      grind
  have hw' : ∀ x ∈ vs ++ [v], ∀ i, n ≤ i → x i = 0 := fun x hx => by
    rcases List.mem_append.mp hx with h | h
    · exact hw x h
    · have : x = v := by simpa using h
      rw [this]
      exact hv
  have A := plainV_pf inv hinv hw
  have B := plainV_pf inv hinv hw'
  have sa := plainV_spn inv hinv hw
  have sb := plainV_spn inv hinv hw'
  have ne : leftV (plainV inv n vs) v ≠ zeroV := fun e => hn ((sa v).mp ((left_zero A v).mp e))
  obtain ⟨j0, hj0⟩ : ∃ j, leftV (plainV inv n vs) v j ≠ 0 := by
    apply Classical.byContradiction
    intro hz
    apply ne
    funext i
    exact Classical.byContradiction fun q => hz ⟨i, q⟩
  obtain ⟨j, _, hj⟩ := exists_lead j0 hj0
  have up : (plainV inv n (vs ++ [v])).length ≤ (plainV inv n vs).length + 1 := by
    have := sorted_more (j := j) (List.pairwise_map.mpr B.inc) (List.pairwise_map.mpr A.inc) fun x hx => by
      obtain ⟨b, mb, rfl⟩ := List.mem_map.mp hx
      have hb : Spn ((plainV inv n vs).map (·.2) ++ [v]) b.2 := by
        refine spn_append (spn_sub _) (fun y hy => spn_left ((sa y).mpr hy)) (fun y hy => spn_right hy) b.2 ((sb b.2).mp (spn_mem (List.mem_map_of_mem mb)))
      rcases lead_more A hj hfld hb (B.leads h1 mb) with ⟨c, mc, e⟩ | e
      · exact .inl (List.mem_map.mpr ⟨c, mc, e⟩)
      · exact .inr e
    rw [List.length_map, List.length_map] at this
    exact this
  have low : (plainV inv n vs).length ≤ (plainV inv n (vs ++ [v])).length := plainV_len_le inv h1 hinv hw hw' fun x hx => spn_left hx
  have neq : (plainV inv n (vs ++ [v])).length ≠ (plainV inv n vs).length := fun e => hn ((plainV_has inv h1 hinv hw hv).mp e)
  omega
/-! ### worth: the sum over the places -/
def dot : Nat → Vec p → Vec p → Fin p
  | 0, _, _ => 0
  | n + 1, x, y => dot n x y + x n * y n
theorem dot_add (n : Nat) (x y w : Vec p) : dot n (addV x y) w = dot n x w + dot n y w := by
  induction n with
  | zero => simp only [dot]; grind
  | succ n ih =>
    simp only [dot]
    rw [ih]
    show dot n x w + dot n y w + (x n + y n) * w n = dot n x w + x n * w n + (dot n y w + y n * w n)
    grind
theorem dot_mul (n : Nat) (c : Fin p) (x w : Vec p) : dot n (mulV c x) w = c * dot n x w := by
  induction n with
  | zero => simp only [dot]; grind
  | succ n ih =>
    simp only [dot]
    rw [ih]
    show c * dot n x w + c * x n * w n = c * (dot n x w + x n * w n)
    grind
theorem dot_comm (n : Nat) (x y : Vec p) : dot n x y = dot n y x := by
  induction n with
  | zero => rfl
  | succ n ih =>
    simp only [dot]
    rw [ih]
    grind
theorem dot_zero (n : Nat) (w : Vec p) : dot n zeroV w = 0 := by
  induction n with
  | zero => rfl
  | succ n ih =>
    simp only [dot]
    rw [ih]
    show (0 : Fin p) + 0 * w n = 0
    grind
end
end Lin
/-! worlds that part; sizes of sums and of what two rooms share -/
namespace Lin
set_option linter.all false
section
variable {p : Nat} [NeZero p]
def unitV (j : Nat) : Vec p := fun i => if i = j then 1 else 0
theorem dot_unit (n : Nat) (x : Vec p) (j : Nat) : dot n x (unitV j) = if j < n then x j else 0 := by
  induction n with
  | zero => simp [dot]
  | succ n ih =>
    simp only [dot]
    rw [ih]
    unfold unitV
    by_cases h1 : n = j
    · subst h1
      rw [if_neg (Nat.lt_irrefl n), if_pos (Nat.lt_succ_self n)]
      simp only [if_true]
      grind
    · rw [if_neg h1]
      by_cases h2 : j < n
      · rw [if_pos h2, if_pos (by omega)]
        grind
      · rw [if_neg h2, if_neg (by omega)]
        grind
/-- the world at which a row is worth what is left of it at the place j -/
def crossV : List (Nat × Vec p) → Nat → Vec p
  | [], j => unitV j
  | b :: bs, j => addV (mulV (-(b.2 j)) (unitV b.1)) (crossV bs j)
theorem dot_cross (n : Nat) : ∀ (bs : List (Nat × Vec p)) (x : Vec p) (j : Nat), (∀ b ∈ bs, b.1 < n) → j < n → dot n x (crossV bs j) = leftV bs x j
  | [], x, j, _, hj => by
    simp only [crossV]
    rw [dot_unit, if_pos hj]
    show x j = x j - 0
    grind
  | b :: bs, x, j, hb, hj => by
    have ih := dot_cross n bs x j (fun c hc => hb c (List.mem_cons_of_mem _ hc)) hj
    simp only [crossV]
    rw [dot_comm, dot_add, dot_mul, dot_comm n (unitV b.1) x, dot_comm n (crossV bs j) x, ih, dot_unit, if_pos (hb b List.mem_cons_self)]
    show -(b.2 j) * x b.1 + (x j - red bs x j) = x j - (x b.1 * b.2 j + red bs x j)
    grind
theorem cross_wid : ∀ (bs : List (Nat × Vec p)) (n j : Nat), (∀ b ∈ bs, b.1 < n) → j < n → ∀ i, n ≤ i → crossV bs j i = 0
  | [], n, j, _, hj, i, hi => by
    show (if i = j then (1 : Fin p) else 0) = 0
    rw [if_neg (by omega)]
  | b :: bs, n, j, hb, hj, i, hi => by
    have ih := cross_wid bs n j (fun c hc => hb c (List.mem_cons_of_mem _ hc)) hj i hi
    have := hb b List.mem_cons_self
    show -(b.2 j) * (if i = b.1 then (1 : Fin p) else 0) + crossV bs j i = 0
    rw [if_neg (by omega), ih]
    grind
/-! ### sizes -/
variable (inv : Fin p → Fin p)
/-- what a list of rows needs: the size of their room -/
def dim (n : Nat) (vs : List (Vec p)) : Nat := (plainV inv n vs).length
structure Good (n : Nat) : Prop where
  one : (1 : Fin p) ≠ 0
  inv : ∀ a : Fin p, a ≠ 0 → inv a * a = 1
def Wid (n : Nat) (vs : List (Vec p)) : Prop := ∀ x ∈ vs, ∀ i, n ≤ i → x i = 0
theorem Wid.app {n : Nat} {vs ws : List (Vec p)} (h1 : Wid n vs) (h2 : Wid n ws) : Wid n (vs ++ ws) := fun x hx => (List.mem_append.mp hx).elim (h1 x) (h2 x)
theorem Wid.one {n : Nat} {v : Vec p} (h : ∀ i, n ≤ i → v i = 0) : Wid n [v] := fun x hx => by
  have : x = v := by simpa using hx
  rw [this]
  exact h
variable {inv}
theorem Good.same {n : Nat} (g : Good inv n) {vs ws : List (Vec p)} (hv : Wid n vs) (hw : Wid n ws) (h : ∀ x, Spn vs x ↔ Spn ws x) : dim inv n vs = dim inv n ws :=
  Nat.le_antisymm (plainV_len_le inv g.one g.inv hv hw fun x hx => (h x).mp hx) (plainV_len_le inv g.one g.inv hw hv fun x hx => (h x).mpr hx)
theorem Good.le {n : Nat} (g : Good inv n) {vs ws : List (Vec p)} (hv : Wid n vs) (hw : Wid n ws) (h : ∀ x, Spn vs x → Spn ws x) : dim inv n vs ≤ dim inv n ws := plainV_len_le inv g.one g.inv hv hw h
theorem Good.in_ {n : Nat} (g : Good inv n) {vs : List (Vec p)} {v : Vec p} (hv : Wid n vs) (hw : ∀ i, n ≤ i → v i = 0) (h : Spn vs v) : dim inv n (vs ++ [v]) = dim inv n vs := (plainV_has inv g.one g.inv hv hw).mpr h
theorem Good.out {n : Nat} (g : Good inv n) {vs : List (Vec p)} {v : Vec p} (hv : Wid n vs) (hw : ∀ i, n ≤ i → v i = 0) (h : ¬ Spn vs v) : dim inv n (vs ++ [v]) = dim inv n vs + 1 := plainV_more inv g.one g.inv hv hw h
theorem dim_nil (n : Nat) : dim inv n ([] : List (Vec p)) = 0 := by
  have h : ∀ k, (List.range k).foldl (stepV inv) (([] : List (Vec p)), []) = ([], []) := by
    intro k
    induction k with
    | zero => rfl
    | succ k ih =>
      rw [List.range_succ, List.foldl_append, ih]
      rfl
  unfold dim plainV
  rw [h n]
  rfl
theorem spn_app {vs ws : List (Vec p)} {x : Vec p} : Spn (vs ++ ws) x ↔ ∃ s t, Spn vs s ∧ Spn ws t ∧ x = addV s t := by
  constructor
  · intro hx
    have hS : Sub (fun x : Vec p => ∃ s t, Spn vs s ∧ Spn ws t ∧ x = addV s t) := by
      refine ⟨⟨zeroV, zeroV, (spn_sub vs).zero, (spn_sub ws).zero, (zero_add _).symm⟩, ?_, ?_⟩
      · rintro x y ⟨s, t, hs, ht, rfl⟩ ⟨s', t', hs', ht', rfl⟩
        refine ⟨addV s s', addV t t', (spn_sub vs).add hs hs', (spn_sub ws).add ht ht', ?_⟩
        funext i
        show s i + t i + (s' i + t' i) = s i + s' i + (t i + t' i)
        grind
      · rintro c x ⟨s, t, hs, ht, rfl⟩
        refine ⟨mulV c s, mulV c t, (spn_sub vs).mul c hs, (spn_sub ws).mul c ht, ?_⟩
        funext i
        show c * (s i + t i) = c * s i + c * t i
        grind
    refine spn_le hS (fun w hw => ?_) hx
    rcases List.mem_append.mp hw with h | h
    · refine ⟨w, zeroV, spn_mem h, (spn_sub ws).zero, ?_⟩
      funext i
      show w i = w i + 0
      grind
    · exact ⟨zeroV, w, (spn_sub vs).zero, spn_mem h, (zero_add w).symm⟩
  · rintro ⟨s, t, hs, ht, rfl⟩
    exact (spn_sub _).add (spn_left hs) (spn_right ht)
/-- what two rooms share: rows that make it, and the sizes -/
theorem Good.meet {n : Nat} (g : Good inv n) {us : List (Vec p)} (hu : Wid n us) : ∀ (m : Nat) (ws : List (Vec p)), ws.length = m → Wid n ws → ∃ ks, Wid n ks ∧ (∀ x, Spn ks x ↔ Spn us x ∧ Spn ws x) ∧ dim inv n (us ++ ws) + dim inv n ks = dim inv n us + dim inv n ws
  | 0, ws, hl, hw => by
    have e : ws = [] := List.eq_nil_of_length_eq_zero hl
    subst e
    refine ⟨[], fun x hx => (nomatch hx), fun x => ⟨fun hx => ⟨?_, hx⟩, fun hx => hx.2⟩, ?_⟩
    · obtain ⟨fs, e⟩ := hx
      rw [e, lin_nil']
      exact (spn_sub us).zero
    · rw [List.append_nil, dim_nil]
  | m + 1, ws, hl, hw => by
    obtain ⟨ws', w, rfl⟩ : ∃ ws' w, ws = ws' ++ [w] := by
      rcases List.eq_nil_or_concat ws with e | ⟨l, b, e⟩
      · rw [e] at hl
        cases hl
      · exact ⟨l, b, by rw [e, List.concat_eq_append]⟩
    have hw' : Wid n ws' := fun x hx => hw x (List.mem_append_left _ hx)
    have hww : ∀ i, n ≤ i → w i = 0 := hw w (by simp)
    obtain ⟨ks, hk, sk, dk⟩ := meet g hu m ws' (by simpa using hl) hw'
    rw [← List.append_assoc]
    by_cases h1 : Spn ws' w
    · have same : ∀ x, Spn (ws' ++ [w]) x ↔ Spn ws' x := fun x => ⟨fun hx => spn_append (spn_sub ws') (fun _ h => h) (fun y hy => spn_sub_of (fun z hz => by
        have : z = w := by simpa using hz
        rw [this]
        exact h1) hy) x hx, spn_left⟩
      refine ⟨ks, hk, fun x => (sk x).trans ⟨fun h => ⟨h.1, (same x).mpr h.2⟩, fun h => ⟨h.1, (same x).mp h.2⟩⟩, ?_⟩
      rw [g.in_ (hu.app hw') hww (spn_right h1), g.in_ hw' hww h1]
      exact dk
    · rw [g.out hw' hww h1]
      by_cases h2 : Spn (us ++ ws') w
      · rw [g.in_ (hu.app hw') hww h2]
        obtain ⟨u, v, su, sv, ew⟩ := spn_app.mp h2
        -- u = w - v is shared
        have eu : u = fun i => w i - 1 * v i := by
          funext i
          have := congrFun ew i
          have this : w i = u i + v i := this
          grind
        have uw : Spn (ws' ++ [w]) u := by
          rw [eu]
          exact (spn_sub _).less 1 (spn_right (spn_mem (by simp))) (spn_left sv)
        have nu : ¬ Spn ws' u := fun hu' => h1 (by rw [ew]; exact (spn_sub _).add hu' sv)
        have wu : ∀ i, n ≤ i → u i = 0 := fun i hi => by
          have h := hu
          have hz : Sub (fun x : Vec p => x i = 0) := ⟨rfl, fun {x y} hx hy => by show x i + y i = 0; rw [hx, hy]; grind, fun c {x} hx => by show c * x i = 0; rw [hx]; grind⟩
          exact spn_le hz (fun x hx => h x hx i hi) su
        refine ⟨ks ++ [u], hk.app (Wid.one wu), fun x => ⟨fun hx => ?_, fun hx => ?_⟩, ?_⟩
        · have s1 : Sub (fun x : Vec p => Spn us x ∧ Spn (ws' ++ [w]) x) := ⟨⟨(spn_sub _).zero, (spn_sub _).zero⟩, fun {x y} hx hy => ⟨(spn_sub _).add hx.1 hy.1, (spn_sub _).add hx.2 hy.2⟩, fun c {x} hx => ⟨(spn_sub _).mul c hx.1, (spn_sub _).mul c hx.2⟩⟩
          refine spn_le s1 (fun y hy => ?_) hx
          rcases List.mem_append.mp hy with hy | hy
          · have := (sk y).mp (spn_mem hy)
            exact ⟨this.1, spn_left this.2⟩
          · have : y = u := by simpa using hy
            rw [this]
            exact ⟨su, uw⟩
        · obtain ⟨s, c, hs, ex⟩ := spn_more hx.2
          -- x - c u is in both
          have hy : Spn us (fun i => x i - c * u i) := (spn_sub _).less c hx.1 su
          have hy2 : Spn ws' (fun i => x i - c * u i) := by
            have e : (fun i => x i - c * u i) = addV s (mulV c v) := by
              funext i
              have e1 := congrFun ex i
              have e2 := congrFun ew i
              have e1 : x i = s i + c * w i := e1
              have e2 : w i = u i + v i := e2
              show x i - c * u i = s i + c * v i
              grind
            rw [e]
            exact (spn_sub _).add hs ((spn_sub _).mul c sv)
          have hk2 := (sk _).mpr ⟨hy, hy2⟩
          have e : x = addV (fun i => x i - c * u i) (mulV c u) := by
            funext i
            show x i = x i - c * u i + c * u i
            grind
          rw [e]
          exact (spn_sub _).add (spn_left hk2) ((spn_sub _).mul c (spn_right (spn_mem (by simp))))
        · have nk : ¬ Spn ks u := fun h => nu ((sk u).mp h).2
          rw [g.out hk wu nk]
          omega
      · rw [g.out (hu.app hw') hww h2]
        refine ⟨ks, hk, fun x => (sk x).trans ⟨fun h => ⟨h.1, spn_left h.2⟩, fun h => ⟨h.1, ?_⟩⟩, by omega⟩
        obtain ⟨s, c, hs, ex⟩ := spn_more h.2
        by_cases hc : c = 0
        · subst hc
          have e : x = s := by
            rw [ex]
            funext i
            show s i + 0 * w i = s i
            grind
          rw [e]
          exact hs
        · -- w would be made of both
          exfalso
          apply h2
          have hi := g.inv c hc
          have e : w = fun i => mulV (inv c) x i - inv c * s i := by
            funext i
            have e1 := congrFun ex i
            have e1 : x i = s i + c * w i := e1
            show w i = inv c * x i - inv c * s i
            grind
          rw [e]
          exact (spn_sub _).less (inv c) ((spn_sub _).mul (inv c) (spn_left h.1)) (spn_right hs)
end
end Lin
/-! across: the worlds at which all rows of a room are worth 0 -/
namespace Lin
set_option linter.all false
section
variable {p : Nat} [NeZero p] {inv : Fin p → Fin p}
theorem dot_single {n : Nat} {x y : Vec p} {k : Nat} (hk : k < n) (h : ∀ i, i < n → i ≠ k → x i * y i = 0) : dot n x y = x k * y k := by
  have go : ∀ m, m ≤ n → dot m x y = if k < m then x k * y k else 0 := by
    intro m
    induction m with
    | zero => intro _; simp [dot]
    | succ m ih =>
      intro hm
      simp only [dot]
      rw [ih (by omega)]
      by_cases e : m = k
      · subst e
        rw [if_neg (Nat.lt_irrefl m), if_pos (Nat.lt_succ_self m)]
        grind
      · rw [h m (by omega) e]
        by_cases h2 : k < m
        · rw [if_pos h2, if_pos (by omega)]
          grind
        · rw [if_neg h2, if_neg (by omega)]
          grind
  rw [go n (Nat.le_refl n), if_pos hk]
theorem cross_free : ∀ (l : List (Nat × Vec p)) (j i : Nat), (∀ b ∈ l, b.1 ≠ i) → crossV l j i = if i = j then 1 else 0
  | [], j, i, _ => rfl
  | b :: l, j, i, h => by
    have ih := cross_free l j i fun c hc => h c (List.mem_cons_of_mem _ hc)
    show -(b.2 j) * (if i = b.1 then (1 : Fin p) else 0) + crossV l j i = _
    rw [if_neg (Ne.symm (h b List.mem_cons_self)), ih]
    grind
/-- whether a place is a first place of a row -/
def isFirst (bs : List (Nat × Vec p)) (j : Nat) : Bool := decide (j ∈ bs.map (·.1))
/-- the places that are first places of no row -/
def frees (n : Nat) (bs : List (Nat × Vec p)) : List Nat := (List.range n).filter fun j => !isFirst bs j
theorem mem_frees {n : Nat} {bs : List (Nat × Vec p)} {j : Nat} : j ∈ frees n bs ↔ j < n ∧ ∀ b ∈ bs, b.1 ≠ j := by
  unfold frees isFirst
  rw [List.mem_filter, List.mem_range]
  constructor
  · rintro ⟨h1, h2⟩
    refine ⟨h1, fun b hb e => ?_⟩
    rw [decide_eq_true (List.mem_map.mpr ⟨b, hb, e⟩)] at h2
    cases h2
  · rintro ⟨h1, h2⟩
    refine ⟨h1, ?_⟩
    rw [decide_eq_false fun hm => ?_]
    · rfl
    · obtain ⟨b, mb, e⟩ := List.mem_map.mp hm
      exact h2 b mb e
theorem filter_split (q : Nat → Bool) : ∀ l : List Nat, l.length = (l.filter q).length + (l.filter fun x => !q x).length
  | [] => rfl
  | a :: l => by
    have ih := filter_split q l
    by_cases hq : q a = true
    · rw [List.filter_cons_of_pos hq, List.filter_cons_of_neg (by rw [hq]; decide), List.length_cons, List.length_cons]
      omega
    · have hq' : q a = false := by simpa using hq
      rw [List.filter_cons_of_neg hq, List.filter_cons_of_pos (by rw [hq']; rfl), List.length_cons, List.length_cons]
      omega
theorem frees_len {n : Nat} {bs : List (Nat × Vec p)} (h : PF n bs) : (frees n bs).length + bs.length = n := by
  have e : (List.range n).filter (isFirst bs) = bs.map (·.1) := by
    refine sorted_eq (List.Pairwise.filter _ List.pairwise_lt_range) (List.pairwise_map.mpr h.inc) fun x => ?_
    rw [List.mem_filter, List.mem_range]
    constructor
    · rintro ⟨_, h2⟩
      exact of_decide_eq_true h2
    · intro hx
      obtain ⟨b, mb, e⟩ := List.mem_map.mp hx
      exact ⟨by rw [← e]; exact h.lt b mb, decide_eq_true hx⟩
  have h1 := filter_split (isFirst bs) (List.range n)
  rw [e, List.length_range, List.length_map] at h1
  unfold frees
  omega
/-- so many of each of the worlds by the free places -/
def tellV (bs : List (Nat × Vec p)) (w : Vec p) : List Nat → Vec p
  | [] => zeroV
  | j :: js => addV (mulV (w j) (crossV bs j)) (tellV bs w js)
theorem tell_spn (bs : List (Nat × Vec p)) (w : Vec p) : ∀ js : List Nat, Spn (js.map (crossV bs)) (tellV bs w js)
  | [] => (spn_sub _).zero
  | j :: js => (spn_sub _).add ((spn_sub _).mul _ (spn_mem (by simp))) (spn_tail (tell_spn bs w js))
theorem tell_free (bs : List (Nat × Vec p)) (w : Vec p) {i : Nat} (hi : ∀ b ∈ bs, b.1 ≠ i) : ∀ js : List Nat, js.Nodup → tellV bs w js i = if i ∈ js then w i else 0
  | [], _ => rfl
  | j :: js, nd => by
    have nd' := List.nodup_cons.mp nd
    have ih := tell_free bs w hi js nd'.2
    show w j * crossV bs j i + tellV bs w js i = _
    rw [ih, cross_free bs j i hi]
    by_cases e : i = j
    · subst e
      rw [if_pos rfl, if_neg nd'.1, if_pos List.mem_cons_self]
      grind
    · rw [if_neg e]
      by_cases hm : i ∈ js
      · rw [if_pos hm, if_pos (List.mem_cons_of_mem _ hm)]
        grind
      · rw [if_neg hm, if_neg (by simp [e, hm])]
        grind
/-- worlds at which all rows of a room are worth 0 -/
def Perp (n : Nat) (S : Vec p → Prop) (w : Vec p) : Prop := (∀ i, n ≤ i → w i = 0) ∧ ∀ x, S x → dot n x w = 0
theorem perp_sub (n : Nat) (S : Vec p → Prop) : Sub (Perp n S) := by
  refine ⟨⟨fun _ _ => rfl, fun x _ => by rw [dot_comm, dot_zero]⟩, fun {x y} hx hy => ⟨fun i hi => ?_, fun z hz => ?_⟩, fun c {x} hx => ⟨fun i hi => ?_, fun z hz => ?_⟩⟩
  · show x i + y i = 0
    rw [hx.1 i hi, hy.1 i hi]
    grind
  · rw [dot_comm, dot_add, dot_comm n x z, dot_comm n y z, hx.2 z hz, hy.2 z hz]
    grind
  · show c * x i = 0
    rw [hx.1 i hi]
    grind
  · rw [dot_comm, dot_mul, dot_comm n x z, hx.2 z hz]
    grind
theorem PF.cross_perp {n : Nat} {bs : List (Nat × Vec p)} (h : PF n bs) {j : Nat} (hj : j < n) : Perp n (Spn (bs.map (·.2))) (crossV bs j) :=
  ⟨cross_wid bs n j h.lt hj, fun x hx => by rw [dot_cross n bs x j h.lt hj, (left_zero h x).mpr hx]; rfl⟩
theorem frees_nodup (n : Nat) (bs : List (Nat × Vec p)) : (frees n bs).Nodup := (List.nodup_range).filter _
/-- the worlds by the free places make them all -/
theorem PF.perp_spn {n : Nat} {bs : List (Nat × Vec p)} (h : PF n bs) (w : Vec p) : Spn ((frees n bs).map (crossV bs)) w ↔ Perp n (Spn (bs.map (·.2))) w := by
  constructor
  · intro hw
    refine spn_le (perp_sub n _) (fun v hv => ?_) hw
    obtain ⟨j, mj, rfl⟩ := List.mem_map.mp hv
    exact h.cross_perp (mem_frees.mp mj).1
  · intro hw
    have ht : Perp n (Spn (bs.map (·.2))) (tellV bs w (frees n bs)) := spn_le (perp_sub n _) (fun v hv => by
      obtain ⟨j, mj, rfl⟩ := List.mem_map.mp hv
      exact h.cross_perp (mem_frees.mp mj).1) (tell_spn bs w (frees n bs))
    have hd : Perp n (Spn (bs.map (·.2))) (fun i => w i - 1 * tellV bs w (frees n bs) i) := (perp_sub n _).less 1 hw ht
    have z1 : ∀ i, i < n → (∀ b ∈ bs, b.1 ≠ i) → w i - 1 * tellV bs w (frees n bs) i = 0 := fun i hi hb => by
      rw [tell_free bs w hb _ (frees_nodup n bs), if_pos (mem_frees.mpr ⟨hi, hb⟩)]
      grind
    have z2 : ∀ c ∈ bs, w c.1 - 1 * tellV bs w (frees n bs) c.1 = 0 := fun c hc => by
      have h0 := hd.2 c.2 (spn_mem (List.mem_map_of_mem hc))
      rw [dot_single (h.lt c hc) fun i hi ne => ?_] at h0
      · rw [h.one c hc] at h0
        grind
      · by_cases hp : ∃ b ∈ bs, b.1 = i
        · obtain ⟨b, mb, rfl⟩ := hp
          rw [h.off c hc b mb (Ne.symm ne)]
          grind
        · rw [z1 i hi fun b mb e => hp ⟨b, mb, e⟩]
          grind
    have e : w = tellV bs w (frees n bs) := by
      funext i
      rcases Nat.lt_or_ge i n with hi | hi
      · by_cases hp : ∃ b ∈ bs, b.1 = i
        · obtain ⟨b, mb, rfl⟩ := hp
          have := z2 b mb
          grind
        · have := z1 i hi fun b mb e => hp ⟨b, mb, e⟩
          grind
      · rw [hw.1 i hi, ht.1 i hi]
    rw [e]
    exact tell_spn bs w _
/-- rows each with a place of its own, at which those ahead have 0: none is made by those ahead -/
theorem Good.own_places {n : Nat} (g : Good inv n) (bs : List (Nat × Vec p)) (hw : ∀ j, j < n → ∀ i, n ≤ i → crossV bs j i = 0) : ∀ (m : Nat) (js : List Nat), js.length = m → js.Nodup → (∀ j ∈ js, j < n ∧ ∀ b ∈ bs, b.1 ≠ j) → dim inv n (js.map (crossV bs)) = js.length
  | 0, js, hl, _, _ => by
    have e : js = [] := List.eq_nil_of_length_eq_zero hl
    subst e
    exact dim_nil n
  | m + 1, js, hl, nd, hf => by
    obtain ⟨js', j, rfl⟩ : ∃ js' j, js = js' ++ [j] := by
      rcases List.eq_nil_or_concat js with e | ⟨l, b, e⟩
      · rw [e] at hl
        cases hl
      · exact ⟨l, b, by rw [e, List.concat_eq_append]⟩
    have nd' : js'.Nodup := (List.nodup_append.mp nd).1
    have nj : j ∉ js' := fun hm => (List.nodup_append.mp nd).2.2 j hm j (by simp) rfl
    have hf' : ∀ k ∈ js', k < n ∧ ∀ b ∈ bs, b.1 ≠ k := fun k hk => hf k (List.mem_append_left _ hk)
    have hj := hf j (by simp)
    have ih := own_places g bs hw m js' (by simpa using hl) nd' hf'
    have wd : Wid n (js'.map (crossV bs)) := fun x hx => by
      obtain ⟨k, mk, rfl⟩ := List.mem_map.mp hx
      exact hw k (hf' k mk).1
    rw [List.map_append, List.map_cons, List.map_nil, g.out wd (hw j hj.1) fun hs => ?_, ih]
    · simp
    · have hz : Sub (fun x : Vec p => x j = 0) := ⟨rfl, fun {x y} hx hy => by show x j + y j = 0; rw [hx, hy]; grind, fun c {x} hx => by show c * x j = 0; rw [hx]; grind⟩
      have h0 : crossV bs j j = 0 := spn_le hz (fun v hv => by
        obtain ⟨k, mk, rfl⟩ := List.mem_map.mp hv
        rw [cross_free bs k j hj.2, if_neg (fun e => nj (by rw [e]; exact mk))]) hs
      rw [cross_free bs j j hj.2, if_pos rfl] at h0
      exact g.one h0
theorem Good.perp_dim {n : Nat} (g : Good inv n) {bs : List (Nat × Vec p)} (h : PF n bs) : dim inv n ((frees n bs).map (crossV bs)) + bs.length = n := by
  rw [g.own_places bs (fun j hj => cross_wid bs n j h.lt hj) _ _ rfl (frees_nodup n bs) fun j hj => mem_frees.mp hj]
  exact frees_len h
theorem Good.pf_dim {n : Nat} (g : Good inv n) {bs : List (Nat × Vec p)} (h : PF n bs) : dim inv n (bs.map (·.2)) = bs.length := by
  have hw : Wid n (bs.map (·.2)) := fun x hx => by
    obtain ⟨b, mb, rfl⟩ := List.mem_map.mp hx
    exact h.wid b mb
  have e := h.uniq g.one (plainV_pf inv g.inv hw) fun x => (plainV_spn inv g.inv hw x).symm
  unfold dim
  rw [← e]
/-- across of across is the room again -/
theorem Good.perp_perp {n : Nat} (g : Good inv n) {bs cs : List (Nat × Vec p)} (hb : PF n bs) (hc : PF n cs) (h : ∀ w, Spn (cs.map (·.2)) w ↔ Perp n (Spn (bs.map (·.2))) w) (x : Vec p) : Perp n (Spn (cs.map (·.2))) x ↔ Spn (bs.map (·.2)) x := by
  have hbw : ∀ y, Spn (bs.map (·.2)) y → ∀ i, n ≤ i → y i = 0 := fun y hy i hi => by
    have hz : Sub (fun x : Vec p => x i = 0) := ⟨rfl, fun {x y} hx hy => by show x i + y i = 0; rw [hx, hy]; grind, fun c {x} hx => by show c * x i = 0; rw [hx]; grind⟩
    refine spn_le hz (fun v hv => ?_) hy
    obtain ⟨b, mb, rfl⟩ := List.mem_map.mp hv
    exact hb.wid b mb i hi
  have sub : ∀ y, Spn (bs.map (·.2)) y → Perp n (Spn (cs.map (·.2))) y := fun y hy => ⟨hbw y hy, fun w hw => by rw [dot_comm]; exact ((h w).mp hw).2 y hy⟩
  refine ⟨fun hx => ?_, sub x⟩
  -- sizes: n - (n - s)
  have wc : Wid n ((frees n cs).map (crossV cs)) := fun y hy => by
    obtain ⟨k, mk, rfl⟩ := List.mem_map.mp hy
    exact cross_wid cs n k hc.lt (mem_frees.mp mk).1
  have wb : Wid n ((frees n bs).map (crossV bs)) := fun y hy => by
    obtain ⟨k, mk, rfl⟩ := List.mem_map.mp hy
    exact cross_wid bs n k hb.lt (mem_frees.mp mk).1
  have d1 := g.perp_dim hb
  have d2 := g.perp_dim hc
  have wcs : Wid n (cs.map (·.2)) := fun x hx => by
    obtain ⟨b, mb, rfl⟩ := List.mem_map.mp hx
    exact hc.wid b mb
  have d3 : dim inv n ((frees n bs).map (crossV bs)) = cs.length := by
    rw [g.same wb wcs fun w => (hb.perp_spn w).trans (h w).symm, g.pf_dim hc]
  have hP := plainV_pf inv g.inv wc
  have sP := plainV_spn inv g.inv wc
  have := hb.same_of_len hP g.one (fun y hy => (sP y).mpr ((hc.perp_spn y).mpr (sub y hy))) (by
    show dim inv n ((frees n cs).map (crossV cs)) ≤ bs.length
    omega) ((sP x).mpr ((hc.perp_spn x).mpr hx))
  exact this
/-- across of both rooms joined is what their across share -/
theorem perp_app {n : Nat} {us ws : List (Vec p)} (w : Vec p) : Perp n (Spn (us ++ ws)) w ↔ Perp n (Spn us) w ∧ Perp n (Spn ws) w := by
  constructor
  · intro h
    exact ⟨⟨h.1, fun x hx => h.2 x (spn_left hx)⟩, ⟨h.1, fun x hx => h.2 x (spn_right hx)⟩⟩
  · rintro ⟨h1, h2⟩
    refine ⟨h1.1, fun x hx => ?_⟩
    obtain ⟨s, t, hs, ht, rfl⟩ := spn_app.mp hx
    rw [dot_add, h1.2 s hs, h2.2 t ht]
    grind
end
end Lin
/-! Which of some rows are needed: those that the ones ahead of them don't make. -/
namespace OC
open Lin
theorem snoc_ind {α : Type} {P : List α → Prop} (h0 : P []) (h1 : ∀ l a, P l → P (l ++ [a])) (l : List α) : P l := by
  have h : ∀ l : List α, P l.reverse := by
    intro l
    induction l with
    | nil => exact h0
    | cons a l ih =>
      rw [List.reverse_cons]
      exact h1 _ _ ih
  have := h l.reverse
  rwa [List.reverse_reverse] at this
def grows (p : Int) (n : Nat) (rs : List (List Int)) (k : Nat) : Bool := decide ((plainR p n (rs.take k)).length < (plainR p n (rs.take (k + 1))).length)
def needR (p : Int) (n : Nat) (rs : List (List Int)) : List Nat := (List.range rs.length).filter (grows p n rs)
def someR (p : Int) (n : Nat) (rs : List (List Int)) : List (List Int) := (needR p n rs).map fun k => rs.getD k []
theorem grows_old {p : Int} {n : Nat} {rs : List (List Int)} {r : List Int} {k : Nat} (h : k < rs.length) : grows p n (rs ++ [r]) k = grows p n rs k := by
  unfold grows
  rw [List.take_append_of_le_length (by omega), List.take_append_of_le_length (by omega)]
theorem grows_new {p : Int} {n : Nat} {rs : List (List Int)} {r : List Int} : grows p n (rs ++ [r]) rs.length = decide ((plainR p n rs).length < (plainR p n (rs ++ [r])).length) := by
  unfold grows
  rw [List.take_append_of_le_length (Nat.le_refl _), List.take_length, List.take_of_length_le (by simp)]
theorem needR_lt {p : Int} {n : Nat} {rs : List (List Int)} {k : Nat} (h : k ∈ needR p n rs) : k < rs.length := List.mem_range.mp (List.mem_filter.mp h).1
theorem needR_snoc (p : Int) (n : Nat) (rs : List (List Int)) (r : List Int) : needR p n (rs ++ [r]) = needR p n rs ++ (if (plainR p n rs).length < (plainR p n (rs ++ [r])).length then [rs.length] else []) := by
  unfold needR
  rw [show (rs ++ [r]).length = rs.length + 1 from by simp, List.range_succ, List.filter_append]
  congr 1
  · apply List.filter_congr
    intro k hk
    exact grows_old (List.mem_range.mp hk)
  · by_cases h : (plainR p n rs).length < (plainR p n (rs ++ [r])).length
    · rw [if_pos h, List.filter_cons_of_pos (by rw [grows_new]; exact decide_eq_true h)]
      rfl
    · rw [if_neg h, List.filter_cons_of_neg (by rw [grows_new, decide_eq_false h]; decide)]
      rfl
theorem someR_snoc (p : Int) (n : Nat) (rs : List (List Int)) (r : List Int) : someR p n (rs ++ [r]) = someR p n rs ++ (if (plainR p n rs).length < (plainR p n (rs ++ [r])).length then [r] else []) := by
  unfold someR
  rw [needR_snoc, List.map_append]
  congr 1
  · apply List.map_congr_left
    intro k hk
    have := needR_lt hk
    rw [List.getD_eq_getElem?_getD, List.getD_eq_getElem?_getD, List.getElem?_append_left this]
  · by_cases h : (plainR p n rs).length < (plainR p n (rs ++ [r])).length
    · rw [if_pos h, if_pos h]
      simp
    · rw [if_neg h, if_neg h]
      rfl
section
variable {q : Nat} [NeZero q]
theorem rowsOk_app {p : Int} {n : Nat} {rs ts : List (List Int)} (h1 : RowsOk p n rs) (h2 : RowsOk p n ts) : RowsOk p n (rs ++ ts) := fun x hx => by
  rcases List.mem_append.mp hx with h' | h'
  · exact h1 x h'
  · exact h2 x h'
theorem rowsOk_nil {p : Int} {n : Nat} : RowsOk p n [] := fun r hr => (nomatch hr)
theorem rowsOk_left {p : Int} {n : Nat} {rs ts : List (List Int)} (h : RowsOk p n (rs ++ ts)) : RowsOk p n rs := fun x hx => h x (List.mem_append_left _ hx)
theorem rowsOk_right {p : Int} {n : Nat} {rs ts : List (List Int)} (h : RowsOk p n (rs ++ ts)) : RowsOk p n ts := fun x hx => h x (List.mem_append_right _ hx)
theorem plainR_more (hF : Fld (q : Int)) {n : Nat} {rows : List (List Int)} {r : List Int} (h : RowsOk q n rows) (hr : RowsOk q n [r]) (hn : ¬ Mk q rows (toV r)) : (plainR q n (rows ++ [r])).length = (plainR q n rows).length + 1 := by
  have h2 : (2 : Int) ≤ q := hF.1
  have hr' := hr r List.mem_cons_self
  rw [plainR_len h, plainR_len (rowsOk_app h hr), List.map_append, List.map_cons, List.map_nil]
  exact plainV_more invF (one_ne (by omega)) (invF_ok hF) (rows_wid h) (fun i hi => toV_wid hr'.1 i hi) hn
theorem plainR_grows (hF : Fld (q : Int)) {n : Nat} {rows : List (List Int)} {r : List Int} (h : RowsOk q n rows) (hr : RowsOk q n [r]) : (plainR q n rows).length < (plainR q n (rows ++ [r])).length ↔ ¬ Mk q rows (toV r) := by
  constructor
  · intro hl hm
    have := (plainR_has hF h hr).mpr hm
    omega
  · intro hm
    have := plainR_more hF h hr hm
    omega
theorem mk_app_of {rows : List (List Int)} {r : List Int} (h : Mk q rows (toV r)) (x : Vec q) : Mk q (rows ++ [r]) x ↔ Mk q rows x := by
  unfold Mk
  rw [List.map_append]
  constructor
  · intro hx
    exact spn_append (spn_sub _) (fun _ h => h) (fun y hy => spn_sub_of (fun v hv => by
      have : v = toV r := by simpa using hv
      rw [this]
      exact h) hy) x hx
  · exact spn_left
theorem mk_app_congr {rows ts : List (List Int)} {r : List Int} (h : ∀ x, Mk q rows x ↔ Mk q ts x) (x : Vec q) : Mk q (rows ++ [r]) x ↔ Mk q (ts ++ [r]) x := by
  unfold Mk at *
  rw [List.map_append, List.map_append]
  constructor
  · intro hx
    exact spn_append (spn_sub _) (fun y hy => spn_left ((h y).mp hy)) (fun y hy => spn_right hy) x hx
  · intro hx
    exact spn_append (spn_sub _) (fun y hy => spn_left ((h y).mpr hy)) (fun y hy => spn_right hy) x hx
theorem plainR_congr (hF : Fld (q : Int)) {n : Nat} {one other : List (List Int)} (h1 : RowsOk q n one) (h2 : RowsOk q n other) (h : ∀ x, Mk q one x ↔ Mk q other x) : plainR q n one = plainR q n other :=
  (plainR_pf hF h1).plain hF h2 fun x => (plainR_mk hF h1 x).trans (h x)
theorem someR_mem {p : Int} {n : Nat} {rs : List (List Int)} {r : List Int} (h : r ∈ someR p n rs) : r ∈ rs := by
  obtain ⟨k, hk, rfl⟩ := List.mem_map.mp h
  have := needR_lt hk
  rw [List.getD_eq_getElem?_getD, List.getElem?_eq_getElem this]
  exact List.getElem_mem this
theorem someR_ok {p : Int} {n : Nat} {rs : List (List Int)} (h : RowsOk p n rs) : RowsOk p n (someR p n rs) := fun r hr => h r (someR_mem hr)
theorem someR_all (hF : Fld (q : Int)) {n : Nat} (rs : List (List Int)) : RowsOk q n rs → (∀ x, Mk q (someR q n rs) x ↔ Mk q rs x) ∧ (someR q n rs).length = (plainR q n rs).length ∧ needR q n (someR q n rs) = List.range (someR q n rs).length := by
  refine snoc_ind (P := fun rs => RowsOk q n rs → (∀ x, Mk q (someR q n rs) x ↔ Mk q rs x) ∧ (someR q n rs).length = (plainR q n rs).length ∧ needR q n (someR q n rs) = List.range (someR q n rs).length) (fun _ => ?_) (fun rs r ih hok => ?_) rs
  · refine ⟨fun _ => Iff.rfl, ?_, rfl⟩
    have h := (plainR_pf hF (n := n) (rows := []) rowsOk_nil)
    have : plainR q n [] = [] := (IsPF.uniq hF h ⟨rowsOk_nil, [], by
      constructor <;> intros <;> (try contradiction) <;> (try exact List.Pairwise.nil), rfl⟩ fun x => plainR_mk hF rowsOk_nil x)
    rw [this]
    rfl
  · have ok1 := rowsOk_left hok
    have ok2 := rowsOk_right hok
    obtain ⟨i1, i2, i3⟩ := ih ok1
    have oks := someR_ok (n := n) ok1
    rw [someR_snoc]
    by_cases hm : Mk q rs (toV r)
    · have hg : ¬ (plainR q n rs).length < (plainR q n (rs ++ [r])).length := fun h => (plainR_grows hF ok1 ok2).mp h hm
      rw [if_neg hg, List.append_nil]
      refine ⟨fun x => (i1 x).trans (mk_app_of hm x).symm, ?_, i3⟩
      rw [i2, (plainR_has hF ok1 ok2).mpr hm]
    · have hg := (plainR_grows hF ok1 ok2).mpr hm
      rw [if_pos hg]
      refine ⟨fun x => mk_app_congr i1 x, ?_, ?_⟩
      · rw [List.length_append, i2, plainR_more hF ok1 ok2 hm]
        rfl
      · rw [needR_snoc, i3, if_pos ((plainR_grows hF oks ok2).mpr fun h => hm ((i1 _).mp h)), List.length_append]
        exact List.range_succ.symm
end
end OC
/-! The program's own way to the plain form: a row more, taken off, made plain, sorted. Core Lean alone. -/
namespace Lin
set_option linter.all false
section
variable {p : Nat} [NeZero p]
def leftF (bs : List (Nat × Vec p)) (x : Vec p) : Vec p := bs.foldl (fun x b => lessV x b.2 b.1) x
theorem red_congr : ∀ (l : List (Nat × Vec p)) (x y : Vec p), (∀ c ∈ l, y c.1 = x c.1) → red l y = red l x
  | [], _, _, _ => rfl
  | b :: l, x, y, h => by
    show addV (mulV (y b.1) b.2) (red l y) = addV (mulV (x b.1) b.2) (red l x)
    rw [h b List.mem_cons_self, red_congr l x y fun c hc => h c (List.mem_cons_of_mem _ hc)]
theorem leftF_eq : ∀ (l : List (Nat × Vec p)) (x : Vec p), l.Pairwise (fun a c => a.2 c.1 = 0) → leftF l x = leftV l x
  | [], x, _ => by
    funext i
    show x i = x i - 0
    grind
  | b :: l, x, h => by
    obtain ⟨h1, h2⟩ := List.pairwise_cons.mp h
    show leftF l (lessV x b.2 b.1) = _
    rw [leftF_eq l _ h2]
    have e : red l (lessV x b.2 b.1) = red l x := red_congr l x _ fun c hc => by
      show x c.1 - x b.1 * b.2 c.1 = x c.1
      rw [h1 c hc]
      grind
    funext i
    show (x i - x b.1 * b.2 i) - red l (lessV x b.2 b.1) i = x i - (x b.1 * b.2 i + red l x i)
    rw [e]
    grind
theorem PF.leftF {n : Nat} {bs : List (Nat × Vec p)} (h : PF n bs) (x : Vec p) : leftF bs x = leftV bs x := by
  refine leftF_eq bs x ?_
  refine h.inc.imp_of_mem fun {a c} ha hc hlt => h.off a ha c hc (by omega)
theorem red_wid : ∀ (l : List (Nat × Vec p)) (x : Vec p) (i : Nat), (∀ b ∈ l, b.2 i = 0) → red l x i = 0
  | [], _, _, _ => rfl
  | b :: l, x, i, h => by
    show x b.1 * b.2 i + red l x i = 0
    rw [red_wid l x i fun c hc => h c (List.mem_cons_of_mem _ hc), h b List.mem_cons_self]
    grind
/-- the pairs behind one row more -/
def moreV (inv : Fin p → Fin p) (bs : List (Nat × Vec p)) (y : Vec p) (j : Nat) : List (Nat × Vec p) := (j, ownV inv y j) :: bs.map fun b => (b.1, lessV b.2 (ownV inv y j) j)
variable (inv : Fin p → Fin p)
theorem moreV_pf {n : Nat} {bs : List (Nat × Vec p)} (h : PF n bs) (hinv : ∀ a : Fin p, a ≠ 0 → inv a * a = 1) {x : Vec p} (hx : ∀ i, n ≤ i → x i = 0) {j : Nat} (hj : Lead (leftV bs x) j) {cs : List (Nat × Vec p)} (hp : cs.Perm (moreV inv bs (leftV bs x) j)) (hi : cs.Pairwise (fun a b => a.1 < b.1)) :
    PF n cs ∧ ∀ z, Spn (cs.map (·.2)) z ↔ Spn (bs.map (·.2) ++ [x]) z := by
  generalize hy : leftV bs x = y at hj hp
  have yb : ∀ b ∈ bs, y b.1 = 0 := fun b hb => by rw [← hy]; exact left_at h x hb
  have yw : ∀ i, n ≤ i → y i = 0 := fun i hi => by
    rw [← hy]
    show x i - red bs x i = 0
    rw [hx i hi, red_wid bs x i fun b hb => h.wid b hb i hi]
    grind
  have jn : j < n := by
    rcases Nat.lt_or_ge j n with h' | h'
    · exact h'
    · exact absurd (yw j h') hj.1
  have jb : ∀ b ∈ bs, b.1 ≠ j := fun b hb e => hj.1 (by rw [← e]; exact yb b hb)
  generalize hf : ownV inv y j = f
  have fd : ∀ i, f i = inv (y j) * y i := fun i => by rw [← hf]; rfl
  have fj : f j = 1 := by rw [fd]; exact hinv _ hj.1
  have f0 : ∀ i, y i = 0 → f i = 0 := fun i e => by rw [fd, e]; grind
  have mem : ∀ c, c ∈ cs ↔ c = (j, f) ∨ ∃ b ∈ bs, c = (b.1, lessV b.2 f j) := fun c => by
    rw [hp.mem_iff]
    unfold moreV
    rw [hf, List.mem_cons, List.mem_map]
    constructor
    · rintro (e | ⟨b, hb, e⟩)
      · exact .inl e
      · exact .inr ⟨b, hb, e.symm⟩
    · rintro (e | ⟨b, hb, e⟩)
      · exact .inl e
      · exact .inr ⟨b, hb, e.symm⟩
  constructor
  · refine ⟨hi, fun c hc => ?_, fun c hc => ?_, fun c hc i hl => ?_, fun c hc d hd hne => ?_, fun c hc i hl => ?_⟩
    · rcases (mem c).mp hc with rfl | ⟨b, hb, rfl⟩
      · exact jn
      · exact h.lt b hb
    · rcases (mem c).mp hc with rfl | ⟨b, hb, rfl⟩
      · exact fj
      · show b.2 b.1 - b.2 j * f b.1 = 1
        rw [f0 _ (yb b hb), h.one b hb]
        grind
    · rcases (mem c).mp hc with rfl | ⟨b, hb, rfl⟩
      · exact f0 i (hj.2 i hl)
      · have hl : i < b.1 := hl
        show b.2 i - b.2 j * f i = 0
        rw [h.low b hb i hl]
        rcases Nat.lt_or_ge i j with h' | h'
        · rw [f0 i (hj.2 i h')]
          grind
        · rw [h.low b hb j (by omega)]
          grind
    · rcases (mem c).mp hc with rfl | ⟨b, hb, rfl⟩
      · rcases (mem d).mp hd with rfl | ⟨b', hb', rfl⟩
        · exact absurd rfl hne
        · exact f0 _ (yb b' hb')
      · rcases (mem d).mp hd with rfl | ⟨b', hb', rfl⟩
        · show b.2 j - b.2 j * f j = 0
          rw [fj]
          grind
        · show b.2 b'.1 - b.2 j * f b'.1 = 0
          rw [f0 _ (yb b' hb'), h.off b hb b' hb' hne]
          grind
    · rcases (mem c).mp hc with rfl | ⟨b, hb, rfl⟩
      · exact f0 i (yw i hl)
      · show b.2 i - b.2 j * f i = 0
        rw [f0 i (yw i hl), h.wid b hb i hl]
        grind
  · have Sc := spn_sub (cs.map (·.2))
    have Sx := spn_sub (bs.map (·.2) ++ [x])
    have inb : ∀ b ∈ bs, Spn (bs.map (·.2) ++ [x]) b.2 := fun b hb => spn_mem (List.mem_append_left _ (List.mem_map_of_mem hb))
    have inx : Spn (bs.map (·.2) ++ [x]) x := spn_mem (List.mem_append_right _ List.mem_cons_self)
    have iny : Spn (bs.map (·.2) ++ [x]) y := by
      have hr : Spn (bs.map (·.2) ++ [x]) (red bs x) := spn_left (spn_red bs x)
      have := Sx.less 1 inx hr
      have e : y = fun i => x i - 1 * red bs x i := by
        rw [← hy]
        funext i
        show x i - red bs x i = x i - 1 * red bs x i
        grind
      rw [e]
      exact this
    have inf : Spn (bs.map (·.2) ++ [x]) f := by
      have := Sx.mul (inv (y j)) iny
      rw [← hf]
      exact this
    have cf : Spn (cs.map (·.2)) f := spn_mem (List.mem_map.mpr ⟨(j, f), (mem _).mpr (.inl rfl), rfl⟩)
    have cb : ∀ b ∈ bs, Spn (cs.map (·.2)) b.2 := fun b hb => by
      have h1 : Spn (cs.map (·.2)) (lessV b.2 f j) := spn_mem (List.mem_map.mpr ⟨(b.1, lessV b.2 f j), (mem _).mpr (.inr ⟨b, hb, rfl⟩), rfl⟩)
      have h2 := Sc.add h1 (Sc.mul (b.2 j) cf)
      have e : b.2 = addV (lessV b.2 f j) (mulV (b.2 j) f) := by
        funext i
        show b.2 i = (b.2 i - b.2 j * f i) + b.2 j * f i
        grind
      rw [e]
      exact h2
    have cx : Spn (cs.map (·.2)) x := by
      have h1 : Spn (cs.map (·.2)) (red bs x) := spn_le Sc (fun v hv => by
        obtain ⟨b, hb, rfl⟩ := List.mem_map.mp hv
        exact cb b hb) (spn_red bs x)
      have h2 := Sc.add h1 (Sc.mul (y j) cf)
      have e : x = addV (red bs x) (mulV (y j) f) := by
        funext i
        show x i = red bs x i + y j * f i
        have e1 : y i = x i - red bs x i := by rw [← hy]; rfl
        have e2 := hinv _ hj.1
        rw [fd]
        grind
      rw [e]
      exact h2
    intro z
    constructor
    · intro hz
      refine spn_le Sx (fun v hv => ?_) hz
      obtain ⟨c, hc, rfl⟩ := List.mem_map.mp hv
      rcases (mem c).mp hc with rfl | ⟨b, hb, rfl⟩
      · exact inf
      · exact Sx.less (b.2 j) (inb b hb) inf
    · intro hz
      refine spn_le Sc (fun v hv => ?_) hz
      rcases List.mem_append.mp hv with hv | hv
      · obtain ⟨b, hb, rfl⟩ := List.mem_map.mp hv
        exact cb b hb
      · have : v = x := by simpa using hv
        rw [this]
        exact cx
end
end Lin
namespace OC
set_option linter.all false
open Lin
/-! ### first places -/
def fpR (r : List Int) : Nat := r.findIdx fun x => decide (x ≠ 0)
theorem fpR_le (r : List Int) : fpR r ≤ r.length := List.findIdx_le_length
theorem fpR_of {r : List Int} {j : Nat} (h : r.getD j 0 ≠ 0) (hl : ∀ i, i < j → r.getD i 0 = 0) : fpR r = j := by
  have hj : j < r.length := by
    rcases Nat.lt_or_ge j r.length with h' | h'
    · exact h'
    · exact absurd (gd_ge h') h
  unfold fpR
  rw [List.findIdx_eq hj]
  refine ⟨decide_eq_true (by rw [gd_lt hj] at h; exact h), fun i hi => ?_⟩
  have := hl i hi
  rw [gd_lt (by omega)] at this
  rw [this]
  rfl
theorem fpR_at {r : List Int} (h : fpR r < r.length) : r.getD (fpR r) 0 ≠ 0 := by
  have e := List.findIdx_getElem (xs := r) (p := fun x => decide (x ≠ 0)) (w := h)
  rw [gd_lt h]
  exact of_decide_eq_true e
theorem fpR_low {r : List Int} {i : Nat} (h : i < fpR r) : r.getD i 0 = 0 := by
  have hl : i < r.length := Nat.lt_of_lt_of_le h (fpR_le r)
  have e := List.not_of_lt_findIdx h
  rw [gd_lt hl]
  apply Classical.byContradiction
  intro hne
  have e2 : decide (r[i] ≠ 0) = true := decide_eq_true hne
  rw [e2] at e
  cases e
theorem fpR_all {r : List Int} (h : fpR r = r.length) : ∀ x ∈ r, x = 0 := by
  intro x hx
  obtain ⟨i, hi, rfl⟩ := List.getElem_of_mem hx
  have := fpR_low (r := r) (i := i) (by omega)
  rwa [gd_lt hi] at this
def leftR (p : Int) (room : List (List Int)) (r : List Int) : List Int := room.foldl (fun r b => lessR p r b (fpR b)) r
/-! ### the order of tuples -/
def codeR (B : Int) : List Int → Int
  | [] => 0
  | d :: r => d * B ^ r.length + codeR B r
theorem codeR_bd {B : Int} (hB : 0 < B) : ∀ r : List Int, (∀ x ∈ r, 0 ≤ x ∧ x < B) → 0 ≤ codeR B r ∧ codeR B r < B ^ r.length
  | [], _ => by
    refine ⟨Int.le_refl _, ?_⟩
    show (0 : Int) < B ^ 0
    rw [Int.pow_zero]
    decide
  | d :: r, h => by
    obtain ⟨c0, c1⟩ := codeR_bd hB r fun x hx => h x (List.mem_cons_of_mem _ hx)
    obtain ⟨d0, d1⟩ := h d List.mem_cons_self
    show 0 ≤ d * B ^ r.length + codeR B r ∧ d * B ^ r.length + codeR B r < B ^ (r.length + 1)
    rw [Int.pow_succ]
    generalize B ^ r.length = P at c1 ⊢
    generalize codeR B r = c at c0 c1 ⊢
    have p1 : (d + 1) * P ≤ B * P := Int.mul_le_mul_of_nonneg_right (by omega) (by omega)
    have p2 : 0 * P ≤ d * P := Int.mul_le_mul_of_nonneg_right d0 (by omega)
    rw [Int.add_mul, Int.one_mul, Int.mul_comm B P] at p1
    rw [Int.zero_mul] at p2
    generalize d * P = X at p1 p2 ⊢
    generalize P * B = Y at p1 ⊢
    constructor <;> omega
theorem fpR_zero (r : List Int) : fpR (0 :: r) = fpR r + 1 := by
  unfold fpR
  rw [List.findIdx_cons]
  simp
theorem fpR_nz {d : Int} (h : d ≠ 0) (r : List Int) : fpR (d :: r) = 0 := by
  unfold fpR
  rw [List.findIdx_cons]
  simp [h]
theorem code_lead {B : Int} (hB : 0 < B) : ∀ (a b : List Int), a.length = b.length → (∀ x ∈ a, 0 ≤ x ∧ x < B) → (∀ x ∈ b, 0 ≤ x ∧ x < B) → fpR b < fpR a → codeR B a < codeR B b
  | [], [], _, _, _, h => absurd h (Nat.lt_irrefl _)
  | [], _ :: _, e, _, _, _ => by cases e
  | _ :: _, [], e, _, _, _ => by cases e
  | x :: a, y :: b, e, ha, hb, h => by
    have e' : a.length = b.length := Nat.succ.inj e
    have x0 : x = 0 := by
      apply Classical.byContradiction
      intro hx
      rw [fpR_nz hx] at h
      exact Nat.not_lt_zero _ h
    subst x0
    have ha' : ∀ x ∈ a, 0 ≤ x ∧ x < B := fun x hx => ha x (List.mem_cons_of_mem _ hx)
    have hb' : ∀ x ∈ b, 0 ≤ x ∧ x < B := fun x hx => hb x (List.mem_cons_of_mem _ hx)
    show 0 * B ^ a.length + codeR B a < y * B ^ b.length + codeR B b
    by_cases hy : y = 0
    · subst hy
      rw [fpR_zero, fpR_zero] at h
      have := code_lead hB a b e' ha' hb' (by omega)
      omega
    · have c1 := (codeR_bd hB a ha').2
      have c2 := (codeR_bd hB b hb').1
      have y1 := (hb y List.mem_cons_self).1
      rw [e'] at c1
      generalize B ^ b.length = P at c1 ⊢
      rw [Int.zero_mul]
      have p1 : 1 * P ≤ y * P := by
        have c0 := (codeR_bd hB a ha').1
        exact Int.mul_le_mul_of_nonneg_right (by omega) (by omega)
      rw [Int.one_mul] at p1
      generalize y * P = X at p1 ⊢
      omega
/-! ### rows -/
section
variable {q : Nat} [NeZero q]
theorem toV_ne {r : List Int} (h : ∀ x ∈ r, 0 ≤ x ∧ x < (q : Int)) (i : Nat) : toV (q := q) r i ≠ 0 ↔ r.getD i 0 ≠ 0 := cF_ne (getD_lt q_pos h i)
theorem toV_eq0 {r : List Int} (h : ∀ x ∈ r, 0 ≤ x ∧ x < (q : Int)) (i : Nat) : toV (q := q) r i = 0 ↔ r.getD i 0 = 0 := by
  have := toV_ne h i
  constructor
  · intro e
    apply Classical.byContradiction
    intro hn
    exact this.mpr hn e
  · intro e
    apply Classical.byContradiction
    intro hn
    exact this.mp hn e
theorem fpR_lead {r : List Int} {j : Nat} (h : ∀ x ∈ r, 0 ≤ x ∧ x < (q : Int)) (hl : Lead (toV (q := q) r) j) : fpR r = j := fpR_of ((toV_ne h j).mp hl.1) fun i hi => (toV_eq0 h i).mp (hl.2 i hi)
theorem lead_fpR {r : List Int} (h : ∀ x ∈ r, 0 ≤ x ∧ x < (q : Int)) (hl : fpR r < r.length) : Lead (toV (q := q) r) (fpR r) := ⟨(toV_ne h _).mpr (fpR_at hl), fun i hi => (toV_eq0 h i).mpr (fpR_low hi)⟩
theorem leftR_sim {n : Nat} : ∀ (room : List (List Int)) (bs : List (Nat × Vec q)) (r : List Int), RowsOk q n room → RowsOk q n [r] → bs.map (·.2) = room.map (toV (q := q)) → (∀ b ∈ bs, Lead b.2 b.1) → RowsOk q n [leftR q room r] ∧ toV (q := q) (leftR q room r) = leftF bs (toV r)
  | [], [], r, _, h, _, _ => ⟨h, rfl⟩
  | [], _ :: _, _, _, _, e, _ => by cases e
  | _ :: _, [], _, _, _, e, _ => by cases e
  | c :: room, b :: bs, r, h1, h2, e, hl => by
    rw [List.map_cons, List.map_cons] at e
    obtain ⟨e1, e2⟩ := List.cons.inj e
    have hc := h1 c List.mem_cons_self
    have hr := h2 r List.mem_cons_self
    have fj : fpR c = b.1 := fpR_lead (q := q) hc.2 (by rw [← e1]; exact hl b List.mem_cons_self)
    have ok : RowsOk q n [lessR q r c (fpR c)] := fun x hx => by
      have : x = lessR q r c (fpR c) := by simpa using hx
      rw [this]
      exact less_row q_pos hr.1 hc.1 _
    obtain ⟨a1, a2⟩ := leftR_sim room bs (lessR q r c (fpR c)) (fun x hx => h1 x (List.mem_cons_of_mem _ hx)) ok e2 fun x hx => hl x (List.mem_cons_of_mem _ hx)
    refine ⟨a1, ?_⟩
    show toV (q := q) (leftR q room (lessR q r c (fpR c))) = leftF bs (lessV (toV r) b.2 b.1)
    rw [a2, toV_less (by rw [hr.1, hc.1]), fj, e1]
theorem q2 (hF : Fld (q : Int)) : 2 ≤ q := by
  have : (2 : Int) ≤ q := hF.1
  omega
theorem IsPF.left (hF : Fld (q : Int)) {n : Nat} {room : List (List Int)} (h : IsPF q n room) {r : List Int} (hr : RowsOk q n [r]) : ∃ bs, PF n bs ∧ bs.map (·.2) = room.map (toV (q := q)) ∧ RowsOk q n [leftR q room r] ∧ toV (q := q) (leftR q room r) = leftV bs (toV r) := by
  obtain ⟨ok, bs, pf, e⟩ := h
  obtain ⟨a1, a2⟩ := leftR_sim room bs r ok hr e fun b hb => pf.leads (one_ne (q2 hF)) hb
  exact ⟨bs, pf, e, a1, by rw [a2, pf.leftF]⟩
theorem noughts_toV {r : List Int} (h : ∀ x ∈ r, 0 ≤ x ∧ x < (q : Int)) : toV (q := q) r = zeroV ↔ ∀ x ∈ r, x = 0 := by
  constructor
  · intro e x hx
    obtain ⟨i, hi, rfl⟩ := List.getElem_of_mem hx
    have := (toV_eq0 h i).mp (congrFun e i)
    rwa [gd_lt hi] at this
  · intro e
    funext i
    refine (toV_eq0 h i).mpr ?_
    by_cases hi : i < r.length
    · rw [gd_lt hi]
      exact e _ (List.getElem_mem hi)
    · exact gd_ge (by omega)
/-- noughts are left just where the room has the row -/
theorem IsPF.left_zero (hF : Fld (q : Int)) {n : Nat} {room : List (List Int)} (h : IsPF q n room) {r : List Int} (hr : RowsOk q n [r]) : (∀ x ∈ leftR q room r, x = 0) ↔ Mk q room (toV r) := by
  obtain ⟨bs, pf, e, ok, et⟩ := h.left hF hr
  rw [← noughts_toV (ok _ List.mem_cons_self).2, et, Lin.left_zero pf, e]
  rfl
theorem perm_pw {α : Type} {R : α → α → Prop} {l m : List α} (hs : ∀ a b, R a b → R b a) (hp : l.Perm m) (h : m.Pairwise R) : l.Pairwise R := (hp.pairwise_iff fun {a b} => hs a b).mpr h
/-- the plain form behind one row more, as the program makes it -/
theorem IsPF.widen (hF : Fld (q : Int)) {n : Nat} {room : List (List Int)} (h : IsPF q n room) {r : List Int} (hr : RowsOk q n [r]) (hne : fpR (leftR q room r) < n) {rs : List (List Int)}
    (hp : rs.Perm (ownR q (leftR q room r) (fpR (leftR q room r)) :: room.map fun b => lessR q b (ownR q (leftR q room r) (fpR (leftR q room r))) (fpR (leftR q room r)))) (hs : rs.Pairwise fun a b => codeR q b ≤ codeR q a) : rs = plainR q n (room ++ [r]) := by
  obtain ⟨bs, pf, e, ok, et⟩ := h.left hF hr
  have okl := ok _ List.mem_cons_self
  have hall : RowsOk q n (room ++ [r]) := rowsOk_app h.1 hr
  have ld : Lead (leftV bs (toV r)) (fpR (leftR q room r)) := by
    rw [← et]
    exact lead_fpR okl.2 (by rw [okl.1]; exact hne)
  generalize hj : fpR (leftR q room r) = j at hne hp ld
  have eo : toV (q := q) (ownR q (leftR q room r) j) = ownV invF (leftV bs (toV r)) j := by
    rw [toV_own okl.2, et]
  have oko := own_row (q_pos (q := q)) okl.1 j
  generalize ownR q (leftR q room r) j = f at hp eo oko
  have okL : RowsOk q n (f :: room.map fun b => lessR q b f j) := fun x hx => by
    rcases List.mem_cons.mp hx with rfl | hx
    · exact oko
    · obtain ⟨b, hb, rfl⟩ := List.mem_map.mp hx
      exact less_row q_pos (h.1 b hb).1 oko.1 j
  have okS : RowsOk q n rs := fun x hx => okL x (hp.mem_iff.mp hx)
  have one1 := one_ne (q := q) (q2 hF)
  -- pairs of the list
  have pairs : (f :: room.map fun b => lessR q b f j).map (fun r => (fpR r, toV (q := q) r)) = moreV invF bs (leftV bs (toV r)) j := by
    have leadM : ∀ c ∈ moreV invF bs (leftV bs (toV r)) j, Lead c.2 c.1 := by
      intro c hc
      have yb : ∀ b ∈ bs, leftV bs (toV r) b.1 = 0 := fun b hb => left_at pf _ hb
      have fd : ∀ i, ownV invF (leftV bs (toV r)) j i = invF (leftV bs (toV r) j) * leftV bs (toV r) i := fun i => rfl
      rcases List.mem_cons.mp hc with rfl | hc
      · refine ⟨?_, fun i hi => ?_⟩
        · show ownV invF (leftV bs (toV r)) j j ≠ 0
          rw [fd, invF_ok hF _ ld.1]
          exact one1
        · show ownV invF (leftV bs (toV r)) j i = 0
          rw [fd, ld.2 i hi]
          grind
      · obtain ⟨b, hb, rfl⟩ := List.mem_map.mp hc
        refine ⟨?_, fun i hi => ?_⟩
        · show b.2 b.1 - b.2 j * ownV invF (leftV bs (toV r)) j b.1 ≠ 0
          rw [fd, yb b hb, pf.one b hb]
          have : (1 : Fin q) - b.2 j * (invF (leftV bs (toV r) j) * 0) = 1 := by grind
          rw [this]
          exact one1
        · have hi : i < b.1 := hi
          show b.2 i - b.2 j * ownV invF (leftV bs (toV r)) j i = 0
          rw [fd, pf.low b hb i hi]
          rcases Nat.lt_or_ge i j with h' | h'
          · rw [ld.2 i h']
            grind
          · rw [pf.low b hb j (by omega)]
            grind
    have e2 : (f :: room.map fun b => lessR q b f j).map (toV (q := q)) = (moreV invF bs (leftV bs (toV r)) j).map (·.2) := by
      unfold moreV
      rw [List.map_cons, List.map_cons, eo, List.map_map, List.map_map]
      congr 1
      have e3 : bs.map ((fun b : Nat × Vec q => b.2) ∘ fun b => (b.1, lessV b.2 (ownV invF (leftV bs (toV r)) j) j)) = (bs.map (·.2)).map fun v => lessV v (ownV invF (leftV bs (toV r)) j) j := by
        rw [List.map_map]
        rfl
      rw [e3, e, List.map_map]
      apply List.map_congr_left
      intro x hx
      show toV (lessR q x f j) = lessV (toV x) (ownV invF (leftV bs (toV r)) j) j
      rw [toV_less (by rw [(h.1 x hx).1, oko.1]), eo]
    have key : ∀ (L : List (List Int)) (M : List (Nat × Vec q)), RowsOk q n L → (∀ c ∈ M, Lead c.2 c.1) → L.map (toV (q := q)) = M.map (·.2) → L.map (fun r => (fpR r, toV (q := q) r)) = M := by
      intro L
      induction L with
      | nil =>
        intro M _ _ e
        cases M with
        | nil => rfl
        | cons m M => cases e
      | cons x L ih =>
        intro M ok lm e
        cases M with
        | nil => cases e
        | cons m M =>
          rw [List.map_cons, List.map_cons] at e
          obtain ⟨a1, a2⟩ := List.cons.inj e
          rw [List.map_cons, ih M (fun y hy => ok y (List.mem_cons_of_mem _ hy)) (fun c hc => lm c (List.mem_cons_of_mem _ hc)) a2]
          congr 1
          have := lm m List.mem_cons_self
          rw [← a1] at this
          rw [fpR_lead (ok x List.mem_cons_self).2 this, a1]
    exact key _ _ okL leadM e2
  have pm : (rs.map fun r => (fpR r, toV (q := q) r)).Perm (moreV invF bs (leftV bs (toV r)) j) := by
    rw [← pairs]
    exact hp.map _
  have dist : (moreV invF bs (leftV bs (toV r)) j).Pairwise fun a b => a.1 ≠ b.1 := by
    unfold moreV
    rw [List.pairwise_cons]
    constructor
    · intro c hc
      obtain ⟨b, hb, rfl⟩ := List.mem_map.mp hc
      intro z
      have z : j = b.1 := z
      apply ld.1
      rw [z]
      exact left_at pf _ hb
    · rw [List.pairwise_map]
      exact pf.inc.imp fun {a b} hab => by
        show a.1 ≠ b.1
        omega
  have dist2 := perm_pw (fun a b hab => Ne.symm hab) pm dist
  rw [List.pairwise_map] at dist2
  have inc : (rs.map fun r => (fpR r, toV (q := q) r)).Pairwise fun a b => a.1 < b.1 := by
    rw [List.pairwise_map]
    refine List.Pairwise.imp_of_mem (fun {a b} ha hb hab => ?_) (dist2.and hs)
    obtain ⟨h1, h2⟩ := hab
    have h1 : fpR a ≠ fpR b := h1
    show fpR a < fpR b
    apply Classical.byContradiction
    intro hn
    have := code_lead (q_pos (q := q)) a b (by rw [(okS a ha).1, (okS b hb).1]) (okS a ha).2 (okS b hb).2 (by omega)
    omega
  obtain ⟨g1, g2⟩ := moreV_pf invF pf (invF_ok hF) (x := toV r) (fun i hi => toV_wid (hr r List.mem_cons_self).1 i hi) ld pm inc
  have em : (rs.map fun r => (fpR r, toV (q := q) r)).map (·.2) = rs.map (toV (q := q)) := by
    rw [List.map_map]
    rfl
  refine IsPF.plain hF ⟨okS, _, g1, em⟩ hall fun x => ?_
  have := g2 x
  rw [em, e] at this
  unfold Mk
  rw [List.map_append]
  exact this
/-- a made row makes nothing new -/
theorem IsPF.widen0 (hF : Fld (q : Int)) {n : Nat} {room : List (List Int)} (h : IsPF q n room) {r : List Int} (hr : RowsOk q n [r]) (hne : ∀ x ∈ leftR q room r, x = 0) : room = plainR q n (room ++ [r]) := by
  have hm := (h.left_zero hF hr).mp hne
  exact IsPF.plain hF h (rowsOk_app h.1 hr) fun x => (mk_app_of hm x).symm
theorem isPF_iff (hF : Fld (q : Int)) {n : Nat} {room : List (List Int)} : IsPF q n room ↔ RowsOk q n room ∧ plainR q n room = room :=
  ⟨fun h => ⟨h.1, (IsPF.plain hF h h.1 fun _ => Iff.rfl).symm⟩, fun h => by
    have := plainR_pf hF h.1
    rwa [h.2] at this⟩
end
/-- a plain form: rows that are their own plain form -/
def PFR (p : Int) (n : Nat) (room : List (List Int)) : Prop := RowsOk p n room ∧ plainR p n room = room
theorem to_q {p : Int} (hF : Fld p) : ∃ q : Nat, p = (q : Int) ∧ ∃ _ : NeZero q, Fld (q : Int) := by
  have h2 := hF.1
  obtain ⟨q, rfl⟩ := Int.eq_ofNat_of_zero_le (show 0 ≤ p by omega)
  exact ⟨q, rfl, ⟨by omega⟩, hF⟩
theorem PFR.of_plain {p : Int} (hF : Fld p) {n : Nat} {rows : List (List Int)} (h : RowsOk p n rows) : PFR p n (plainR p n rows) := by
  obtain ⟨q, rfl, _, hF⟩ := to_q hF
  exact (isPF_iff hF).mp (plainR_pf hF h)
theorem PFR.nil {p : Int} (hF : Fld p) (n : Nat) : PFR p n [] := by
  have := PFR.of_plain hF (n := n) (rowsOk_nil (p := p))
  have e : plainR p n [] = [] := by
    have h : ∀ k, (List.range k).foldl (stepR p) (([] : List (List Int)), ([] : List (List Int))) = ([], []) := by
      intro k
      induction k with
      | zero => rfl
      | succ k ih => rw [List.range_succ, List.foldl_append, ih]; rfl
    unfold plainR
    rw [h]
  exact ⟨rowsOk_nil, e⟩
theorem PFR.left_ok {p : Int} (hF : Fld p) {n : Nat} {room : List (List Int)} (h : PFR p n room) {r : List Int} (hr : RowsOk p n [r]) : RowsOk p n [leftR p room r] := by
  obtain ⟨q, rfl, _, hF⟩ := to_q hF
  obtain ⟨_, _, _, ok, _⟩ := ((isPF_iff hF).mpr h).left hF hr
  exact ok
theorem PFR.widen {p : Int} (hF : Fld p) {n : Nat} {room : List (List Int)} (h : PFR p n room) {r : List Int} (hr : RowsOk p n [r]) (hne : fpR (leftR p room r) < n) {rs : List (List Int)}
    (hp : rs.Perm (ownR p (leftR p room r) (fpR (leftR p room r)) :: room.map fun b => lessR p b (ownR p (leftR p room r) (fpR (leftR p room r))) (fpR (leftR p room r)))) (hs : rs.Pairwise fun a b => codeR p b ≤ codeR p a) : rs = plainR p n (room ++ [r]) := by
  obtain ⟨q, rfl, _, hF⟩ := to_q hF
  exact ((isPF_iff hF).mpr h).widen hF hr hne hp hs
theorem PFR.widen0 {p : Int} (hF : Fld p) {n : Nat} {room : List (List Int)} (h : PFR p n room) {r : List Int} (hr : RowsOk p n [r]) (hne : ∀ x ∈ leftR p room r, x = 0) : room = plainR p n (room ++ [r]) := by
  obtain ⟨q, rfl, _, hF⟩ := to_q hF
  exact ((isPF_iff hF).mpr h).widen0 hF hr hne
/-- noughts are left just where one row more makes nothing new -/
theorem PFR.left_has {p : Int} (hF : Fld p) {n : Nat} {room : List (List Int)} (h : PFR p n room) {r : List Int} (hr : RowsOk p n [r]) : (∀ x ∈ leftR p room r, x = 0) ↔ (plainR p n (room ++ [r])).length = (plainR p n room).length := by
  obtain ⟨q, rfl, _, hF⟩ := to_q hF
  rw [((isPF_iff hF).mpr h).left_zero hF hr]
  exact (plainR_has hF h.1 hr).symm
/-- the plain form of a plain form and more rows -/
theorem plainR_app {p : Int} (hF : Fld p) {n : Nat} {rows ts : List (List Int)} (h : RowsOk p n rows) (ht : RowsOk p n ts) : plainR p n (plainR p n rows ++ ts) = plainR p n (rows ++ ts) := by
  obtain ⟨q, rfl, _, hF⟩ := to_q hF
  refine plainR_congr hF (rowsOk_app (plainR_rows h) ht) (rowsOk_app h ht) fun x => ?_
  unfold Mk
  rw [List.map_append, List.map_append]
  constructor
  · intro hx
    refine spn_le (spn_sub _) (fun v hv => ?_) hx
    rcases List.mem_append.mp hv with hv | hv
    · exact spn_left ((plainR_mk hF h v).mp (spn_mem hv))
    · exact spn_right (spn_mem hv)
  · intro hx
    refine spn_le (spn_sub _) (fun v hv => ?_) hx
    rcases List.mem_append.mp hv with hv | hv
    · exact spn_left ((plainR_mk hF h v).mpr (spn_mem hv))
    · exact spn_right (spn_mem hv)
theorem plainR_lenle {p : Int} (hF : Fld p) {n : Nat} {rows : List (List Int)} (h : RowsOk p n rows) : (plainR p n rows).length ≤ n := by
  obtain ⟨q, rfl, _, hF⟩ := to_q hF
  obtain ⟨_, bs, pf, e⟩ := plainR_pf hF h
  have e1 := congrArg List.length e
  rw [List.length_map, List.length_map] at e1
  rw [← e1]
  have h1 : (bs.map (·.1)).Pairwise (· < ·) := List.pairwise_map.mpr pf.inc
  have h2 := (sorted_len h1 (List.pairwise_lt_range (n := n)) fun x hx => by
    obtain ⟨b, hb, rfl⟩ := List.mem_map.mp hx
    exact List.mem_range.mpr (pf.lt b hb)).1
  rw [List.length_map, List.length_range] at h2
  exact h2
end OC
set_option Elab.async false
set_option linter.all false
set_option maxRecDepth 100000
/-! what laws share of rows as ints and as data -/
namespace OC
open PySem PySem.Spec PyProof.Rows L2
def plusR (p : Int) (x y : List Int) (m : Int) : List Int := List.zipWith (fun a b => (a + m * b) % p) x y
theorem plus_len {p : Int} {x y : List Int} {m : Int} (h : x.length = y.length) : (plusR p x y m).length = x.length := by
  unfold plusR
  rw [List.length_zipWith]
  omega
theorem plus_ok {p : Int} {x y : List Int} {m : Int} (hp : 0 < p) : RowOk p (plusR p x y m) := by
  intro z hz
  unfold plusR at hz
  rw [List.mem_iff_getElem?] at hz
  obtain ⟨i, hi⟩ := hz
  rw [List.getElem?_zipWith] at hi
  split at hi
  · cases Option.some.inj hi
    exact ⟨Int.emod_nonneg _ (by omega), Int.emod_lt_of_pos _ hp⟩
  · cases hi
def addR (p : Int) (x y : List Int) : List Int := List.zipWith (fun a b => (a + b) % p) x y
def timesR (p a : Int) (x : List Int) : List Int := x.map fun r => a * r % p
def PR8 : List Int := [5, 7, 11, 101, 5, 13, 97, 23]
theorem pr8_bd : ∀ p ∈ PR8, 5 ≤ p ∧ p ≤ 101 := by decide +kernel
def intsOf : PyData → List Int
  | .list ds => ds.map fun d => match d with | .int i => i | _ => 0
  | .tuple ds => ds.map fun d => match d with | .int i => i | _ => 0
  | _ => []
theorem ints_row (r : List Int) : intsOf (rowD r) = r := by
  show (r.map PyData.int).map _ = r
  rw [List.map_map]
  exact List.map_id r
theorem rep_lst_ints {K : PySem.W.Frag} {H : Hp} {bad : Addr → Prop} : ∀ {xs : List V} {r : List Int}, RepAll K H bad xs (r.map PyData.int) → xs = r.map V.int
  | _, [], h => by cases h; rfl
  | _, n :: r, h => by
    cases h with
    | cons h1 h2 =>
      cases h1
      rw [rep_lst_ints h2]
      rfl
theorem rep_row {K : PySem.W.Frag} {H : Hp} {bad : Addr → Prop} {v : V} {r : List Int} (h : Rep K H bad v (rowD r)) : ∃ l, v = .ref l ∧ SqT K H l (r.map V.int) := by
  unfold rowD at h
  cases h with
  | tup hs ha => exact ⟨_, rfl, (rep_lst_ints ha) ▸ hs⟩
theorem rep_rows {K : PySem.W.Frag} {H : Hp} {bad : Addr → Prop} : ∀ {ws : List V} {rs : List (List Int)}, DpAll K H ws (rs.map rowD) → RepAll K H bad ws (rs.map rowD)
  | _, [], h => by cases h; exact .nil
  | _, r :: rs, h => by
    cases h with
    | cons h1 h2 =>
      obtain ⟨a, rfl, ha⟩ := dp_row h1
      exact .cons (row_rep ha) (rep_rows h2)
theorem rows_rep {K : PySem.W.Frag} {H : Hp} {bad : Addr → Prop} : ∀ {ws : List V} {rs : List (List Int)}, RepAll K H bad ws (rs.map rowD) → DpAll K H ws (rs.map rowD)
  | _, [], h => by cases h; exact .nil
  | _, r :: rs, h => by
    cases h with
    | cons h1 h2 =>
      obtain ⟨a, rfl, ha⟩ := rep_row h1
      exact .cons (row_dp ha) (rows_rep h2)
theorem foldl_succ {α : Type} (f : α → Nat → α) (a : α) (k : Nat) : (List.range (k + 1)).foldl f a = f ((List.range k).foldl f a) k := by
  rw [List.range_succ, List.foldl_append]
  rfl
def numsV (ks : List Nat) : List V := ks.map fun (k : Nat) => V.int (k : Int)
theorem plainR_nil (p : Int) (n : Nat) : plainR p n [] = [] := by
  have h : ∀ k, (List.range k).foldl (stepR p) (([] : List (List Int)), ([] : List (List Int))) = ([], []) := by
    intro k
    induction k with
    | zero => rfl
    | succ k ih => rw [foldl_succ, ih]; rfl
  unfold plainR
  rw [h]
theorem need_take (p : Int) (n : Nat) (rs : List (List Int)) (k : Nat) (h : k < rs.length) : needR p n (rs.take (k + 1)) = needR p n (rs.take k) ++ (if (plainR p n (rs.take k)).length < (plainR p n (rs.take (k + 1))).length then [k] else []) := by
  have e : rs.take (k + 1) = rs.take k ++ [rs[k]] := by rw [List.take_succ, List.getElem?_eq_getElem h]; rfl
  rw [e, needR_snoc, List.length_take, Nat.min_eq_left (by omega)]
def hasR (p : Int) (n : Nat) (rs : List (List Int)) (r : List Int) : Bool := decide ((plainR p n (rs ++ [r])).length = (plainR p n rs).length)
def fldB (p : Nat) : Bool := decide (2 ≤ p) && (List.range p).all fun a => a == 0 || (List.range p).any fun b => a * b % p == 1
theorem fld_of {p : Nat} (h : fldB p = true) : Fld (p : Int) := by
  unfold fldB at h
  rw [Bool.and_eq_true] at h
  obtain ⟨h2, h⟩ := h
  have h2 := of_decide_eq_true h2
  refine ⟨by omega, fun a a1 ap => ?_⟩
  have ha := List.all_eq_true.mp h a.toNat (List.mem_range.mpr (by omega))
  rw [Bool.or_eq_true] at ha
  rcases ha with ha | ha
  · have := eq_of_beq ha
    omega
  · obtain ⟨b, hb, e⟩ := List.any_eq_true.mp ha
    have e := eq_of_beq e
    have hb := List.mem_range.mp hb
    refine ⟨(b : Int), ?_, by omega, ?_⟩
    · cases b with
      | zero => rw [Nat.mul_zero, Nat.zero_mod] at e; cases e
      | succ b => omega
    · have e2 : ((a.toNat * b % p : Nat) : Int) = 1 := by rw [e]; rfl
      rw [Int.natCast_emod, Int.natCast_mul, Int.toNat_of_nonneg (by omega)] at e2
      exact e2
theorem pr8_fld : ∀ p ∈ PR8, Fld p := by
  intro p hp
  have h : ∀ p ∈ PR8, fldB p.toNat = true := by decide +kernel
  have b := pr8_bd p hp
  have := fld_of (h p hp)
  rwa [Int.toNat_of_nonneg (by omega)] at this
end OC
set_option Elab.async false
set_option linter.all false
set_option maxRecDepth 100000
/-! what the promises of the program's own defs rest on -/
namespace OC
open PySem PySem.Spec PyProof.Rows L2 Lin
theorem less_eq {p : Int} : ∀ (c : Int) (x y : List Int), addR p x (timesR p (p - c) y) = List.zipWith (fun r m => (r - c * m) % p) x y
  | _, [], _ => rfl
  | _, _ :: _, [] => rfl
  | c, a :: x, b :: y => by
    have ih := less_eq (p := p) c x y
    unfold addR timesR at ih ⊢
    rw [List.map_cons, List.zipWith_cons_cons, List.zipWith_cons_cons, ih, Int.add_emod_emod]
    congr 1
    rw [show a + (p - c) * b = (a - c * b) + p * b by grind, Int.add_mul_emod_self_left]
theorem less_zero {p : Int} : ∀ (x y : List Int), x.length = y.length → RowOk p x → List.zipWith (fun r m => (r - 0 * m) % p) x y = x
  | [], _, _, _ => rfl
  | _ :: _, [], e, _ => by cases e
  | a :: x, b :: y, e, h => by
    rw [List.zipWith_cons_cons, less_zero x y (Nat.succ.inj e) fun z hz => h z (List.mem_cons_of_mem _ hz)]
    have := h a List.mem_cons_self
    rw [Int.zero_mul, Int.sub_zero, Int.emod_eq_of_lt this.1 this.2]
theorem ctr_uniq {p a b : Int} (hF : Fld p) (h0 : 1 ≤ a) (h1 : a < p) (b0 : 1 ≤ b) (b1 : b < p) (e : a * b % p = 1) : b = ctr p a := by
  obtain ⟨c0, c1, c2⟩ := ctr_ok hF h0 h1
  generalize ctr p a = c at c0 c1 c2
  have h2 := hF.1
  have e1 : b * (a * c) % p = b := by
    rw [Int.mul_emod, c2, Int.mul_one, Int.emod_emod]
    exact Int.emod_eq_of_lt (by omega) b1
  have e2 : b * (a * c) % p = c := by
    rw [show b * (a * c) = (a * b) * c by grind, Int.mul_emod, e, Int.one_mul, Int.emod_emod]
    exact Int.emod_eq_of_lt c0 c1
  omega
/-- rows in a tuple -/
def RowsAt (K : PySem.W.Frag) (H : Hp) (a : Addr) (rs : List (List Int)) : Prop := ∃ ws, SqT K H a ws ∧ DpAll K H ws (rs.map rowD)
theorem RowsAt.same {K : PySem.W.Frag} {H H' : Hp} {a : Addr} {rs : List (List Int)} (s : Same H H') (h : RowsAt K H a rs) : RowsAt K H' a rs := by
  obtain ⟨ws, h1, h2⟩ := h
  exact ⟨ws, Same.tup s h1, dpAll_same s _ _ h2⟩
theorem rows_len {K : PySem.W.Frag} {H : Hp} {ws : List V} {rs : List (List Int)} (h : DpAll K H ws (rs.map rowD)) : ws.length = rs.length := by
  have := dpAll_len h
  rwa [List.length_map] at this
theorem PFR.fp_lt {p : Int} (hF : Fld p) {n : Nat} {room : List (List Int)} (h : PFR p n room) : ∀ b ∈ room, fpR b < n := by
  obtain ⟨q, rfl, _, hF⟩ := to_q hF
  obtain ⟨ok, bs, pf, e⟩ := (isPF_iff hF).mpr h
  intro b hb
  have : toV (q := q) b ∈ bs.map (·.2) := by rw [e]; exact List.mem_map_of_mem hb
  obtain ⟨c, hc, ec⟩ := List.mem_map.mp this
  have := pf.leads (one_ne (q2 hF)) hc
  rw [ec] at this
  rw [fpR_lead (ok b hb).2 this]
  exact pf.lt c hc
/-- a room of all rows gets no wider -/
theorem plain_full {p : Int} (hF : Fld p) {n : Nat} {rows ts : List (List Int)} (h : RowsOk p n rows) (ht : RowsOk p n ts) (hl : (plainR p n rows).length = n) : plainR p n (rows ++ ts) = plainR p n rows := by
  have hle := plainR_lenle hF (rowsOk_app h ht)
  obtain ⟨q, rfl, _, hF⟩ := to_q hF
  obtain ⟨_, bs, pb, eb⟩ := plainR_pf hF h
  obtain ⟨_, cs, pc, ec⟩ := plainR_pf hF (rowsOk_app h ht)
  have lb := congrArg List.length eb
  have lc := congrArg List.length ec
  rw [List.length_map, List.length_map] at lb lc
  have sub : ∀ x, Spn (bs.map (·.2)) x → Spn (cs.map (·.2)) x := fun x hx => by
    rw [eb] at hx
    rw [ec]
    refine (plainR_mk hF (rowsOk_app h ht) x).mpr ?_
    unfold Mk
    rw [List.map_append]
    exact spn_left ((plainR_mk hF h x).mp hx)
  refine ((plainR_pf hF (rowsOk_app h ht)).uniq hF (plainR_pf hF h) fun x => ?_)
  unfold Mk
  rw [← eb, ← ec]
  exact ⟨fun hx => pb.same_of_len pc (one_ne (q2 hF)) sub (by omega) hx, sub x⟩
theorem dpAll_perm {K : PySem.W.Frag} {H : Hp} {ys xs : List V} (hp : ys.Perm xs) : ∀ {rs : List (List Int)}, DpAll K H xs (rs.map rowD) → ∃ rs' : List (List Int), rs'.Perm rs ∧ DpAll K H ys (rs'.map rowD) := by
  induction hp with
  | nil => exact fun {rs} h => ⟨rs, List.Perm.refl _, h⟩
  | cons x _ ih =>
    intro rs h
    cases rs with
    | nil => cases h
    | cons r rs =>
      cases h with
      | cons h1 h2 =>
        obtain ⟨rs', p, d⟩ := ih h2
        exact ⟨r :: rs', p.cons r, .cons h1 d⟩
  | swap x y l =>
    intro rs h
    match rs, h with
    | [], h => cases h
    | [r], h =>
      cases h with
      | cons h1 h2 => cases h2
    | r1 :: r2 :: rs, h =>
      cases h with
      | cons h1 h2 =>
        cases h2 with
        | cons h2 h3 => exact ⟨r2 :: r1 :: rs, List.Perm.swap _ _ _, .cons h2 (.cons h1 h3)⟩
  | trans _ _ ih1 ih2 =>
    intro rs h
    obtain ⟨r1, p1, d1⟩ := ih2 h
    obtain ⟨r2, p2, d2⟩ := ih1 d1
    exact ⟨r2, p2.trans p1, d2⟩
theorem code_eq (B : Int) : ∀ r : List Int, TS.code B r = codeR B r
  | [] => rfl
  | d :: r => by
    show d * B ^ r.length + TS.code B r = d * B ^ r.length + codeR B r
    rw [code_eq B r]
theorem dpAll_pw {K : PySem.W.Frag} {H : Hp} {B : Int} : ∀ {ys : List V} {rs : List (List Int)}, DpAll K H ys (rs.map rowD) → ys.Pairwise (fun x y => ∀ n m, TupI K H x n → TupI K H y m → TS.code B m ≤ TS.code B n) → rs.Pairwise fun a b => codeR B b ≤ codeR B a
  | _, [], _, _ => List.Pairwise.nil
  | _, r :: rs, h, hp => by
    cases h with
    | @cons y ys _ _ h1 h2 =>
      obtain ⟨p1, p2⟩ := List.pairwise_cons.mp hp
      refine List.pairwise_cons.mpr ⟨fun b hb => ?_, dpAll_pw h2 p2⟩
      obtain ⟨i, hi, rfl⟩ := List.getElem_of_mem hb
      have hi' : i < ys.length := by rw [rows_len h2]; exact hi
      obtain ⟨c, r2, ec, gr, _, hc⟩ := dpAll_row h2 (List.getElem?_eq_getElem hi')
      rw [List.getElem?_eq_getElem hi] at gr
      have er : rs[i] = r2 := Option.some.inj gr
      obtain ⟨a, ea, ha⟩ := dp_row h1
      have := p1 ys[i] (List.getElem_mem hi') r rs[i] ⟨a, ea, ha⟩ ⟨c, ec, by rw [er]; exact hc⟩
      rwa [code_eq, code_eq] at this
theorem hasR_iff {p : Int} (hF : Fld p) {n : Nat} {room : List (List Int)} (h : PFR p n room) {r : List Int} (hr : RowsOk p n [r]) : (leftR p room r).all (fun x => decide (x = 0)) = hasR p n room r := by
  have e := PFR.left_has hF h hr
  unfold hasR
  by_cases c : (plainR p n (room ++ [r])).length = (plainR p n room).length
  · rw [decide_eq_true c, List.all_eq_true]
    exact fun x hx => decide_eq_true (e.mpr c x hx)
  · rw [decide_eq_false c, Bool.eq_false_iff]
    intro z
    exact c (e.mp fun x hx => of_decide_eq_true (List.all_eq_true.mp z x hx))
theorem rowOk_getD {p : Int} {r : List Int} {n : Nat} (h : r.length = n ∧ ∀ x ∈ r, 0 ≤ x ∧ x < p) {j : Nat} (hj : j < n) : 0 ≤ r.getD j 0 ∧ r.getD j 0 < p := by
  rw [gd_lt (by omega)]
  exact h.2 _ (List.getElem_mem _)
theorem at_row {r : List Int} {j : Nat} (h : j < r.length) : atI (r.map V.int) (j : Int) = some (.int (r.getD j 0)) := at_of (j := j) rfl (by rw [List.getElem?_map, List.getElem?_eq_getElem h, gd_lt h]; rfl)
theorem rowsOk_one {p : Int} {n : Nat} {r : List Int} (h : r.length = n ∧ ∀ x ∈ r, 0 ≤ x ∧ x < p) : RowsOk p n [r] := fun x hx => by
  have : x = r := by simpa using hx
  rw [this]
  exact h
theorem leftR_take {p : Int} {room : List (List Int)} {r : List Int} {i : Nat} {b : List Int} (h : room[i]? = some b) : leftR p (room.take (i + 1)) r = lessR p (leftR p (room.take i) r) b (fpR b) := by
  unfold leftR
  rw [List.take_add_one, h, List.foldl_append]
  rfl
theorem leftR_ok {p : Int} (hp : 0 < p) {n : Nat} : ∀ (room : List (List Int)) (r : List Int), RowsOk p n room → RowsOk p n [r] → RowsOk p n [leftR p room r]
  | [], _, _, h => h
  | b :: room, r, h1, h2 => leftR_ok hp room _ (fun x hx => h1 x (List.mem_cons_of_mem _ hx)) (rowsOk_one (less_row hp (h2 r List.mem_cons_self).1 (h1 b List.mem_cons_self).1 _))
end OC
set_option Elab.async false
set_option linter.all false
set_option maxRecDepth 100000
/-! rooms as data; comprehensions of plain values -/
namespace OC
open PySem PySem.Spec PyProof.Rows L2 Lin
abbrev Bad (d c : Addr) : Addr → Prop := fun a => a = d ∨ a = c
theorem Deck.fresh {H : Hp} {d c p : Addr} {t : Int} (D : Deck H d c t) (n : H p = none) : ¬ Bad d c p := by
  obtain ⟨hd, ⟨cells, h1, h2⟩, _, t0⟩ := D
  rintro (z | z)
  · subst z; rw [hd] at n; cases n
  · subst z; rw [h1] at n; cases n
theorem Stays.kept2 {bad : Addr → Prop} {d c : Addr} {t : Int} {H H' : Hp} (D : Deck H d c t) (k : Kept d c H H') (bd : bad d) (bc : bad c) : Stays bad H H' := by
  have s := Stays.kept D k
  refine ⟨s.t, s.d, fun a xs h n => k a _ h (fun z => n (by rw [z]; exact bd)) (fun z => n (by rw [z]; exact bc))⟩
theorem Deck.mut {H : Hp} {d c B : Addr} {t : Int} {o : HO} (D : Deck H d c t) (b : ¬ Bad d c B) : Deck (upd H B o) d c t := by
  obtain ⟨hd, ⟨cells, h1, h2⟩, n, t0⟩ := D
  exact ⟨by rw [upd_ne (fun z => b (.inl z.symm))]; exact hd, ⟨cells, by rw [upd_ne (fun z => b (.inr z.symm))]; exact h1, h2⟩, n, t0⟩
theorem Kept.mut {H H' : Hp} {d c B : Addr} {o : HO} (k : Kept d c H H') (n : H B = none) : Kept d c H (upd H' B o) := fun b x h n1 n2 => by
  rw [upd_ne (ne_of_none h n)]
  exact k b x h n1 n2
theorem Kept.rows {K : PySem.W.Frag} {H H' : Hp} {d c : Addr} {t : Int} {a : Addr} {rs : List (List Int)} (D : Deck H d c t) (k : Kept d c H H') (h : RowsAt K H a rs) : RowsAt K H' a rs := by
  obtain ⟨ws, h1, h2⟩ := h
  exact ⟨ws, Kept.tup D k h1, dpAll_tk (Tk.kept D k) _ _ (noL_rows rs) h2⟩
/-- [t for x in xs], t no object -/
theorem lc_valR {K : PySem.W.Frag} {J : It} {G : Hp → Prop} {vs : List V} {ds : List PyData} {σ : L2.St} {H : Hp} {Qd : Addr → Hp → Prop} {i : Nat} {sl : List Nat} {te : TE} (f : PyData → V)
    (w : Walk J vs.length G (YAt vs)) (hG : ∀ H', Same H H' → G H') (hD : RepAll K H NB vs ds) (hz : vs.length ≤ 1000) (hw : ∀ x : Option V, wipe ((wipe σ sl).set i x) sl = wipe σ sl)
    (hte : ∀ (v : V) (d : PyData) (H' : Hp) (Q' : VK), d ∈ ds → Rep K H' NB v d → Same H H' → (∀ H'', Same H' H'' → Q' (f d) H'') → te ((wipe σ sl).set i (some v)) H' Q')
    (hd : ∀ D H', Same H H' → H D = none → H' D = some (.lst (ds.map f)) → Qd D H') : LcGoal J (gName i) tYes te sl σ H Qd := by
  intro D nD
  have lv := repAll_len hD
  refine lc_it w (fun k H' => Same H H' ∧ H' D = some (.lst ((ds.take k).map f))) ⟨same_mut (Same.refl H) nD, upd_same⟩ (fun k H' _ hP => hG H' hP.1) (fun k x H1 H2 hk hP hY => ?_) (fun H' hP => ?_)
  · obtain ⟨rfl, e1⟩ := hY
    obtain ⟨sm, eD⟩ := hP
    obtain ⟨d, g, md, rx⟩ := repAll_get hD e1
    refine ⟨hw _, hte x d _ _ md (rep_stays (Stays.of sm) _ _ rx) sm fun H'' s2 => ?_⟩
    refine ⟨_, s2 _ _ eD, ?_, same_mut (sm.trans s2) nD, ?_⟩
    · rw [List.length_map, List.length_take]
      exact small1000 (by omega)
    · rw [upd_same, List.take_add_one, g, List.map_append]
      rfl
  · obtain ⟨sm, eD⟩ := hP
    rw [List.take_of_length_le (by omega)] at eD
    exact hd D H' sm nD eD
/-! ### rooms as data -/
theorem isRow_row {p : Int} {n : Nat} {r : List Int} (h : r.length = n ∧ ∀ x ∈ r, 0 ≤ x ∧ x < p) : isRowD p n (rowD r) = true := by
  show (decide (((r.map PyData.int).length : Int) = n) && (r.map PyData.int).all (restD p)) = true
  rw [List.length_map, h.1, decide_eq_true rfl, Bool.true_and, List.all_map, List.all_eq_true]
  intro x hx
  show (decide (0 ≤ x) && decide (x < p)) = true
  have := h.2 x hx
  rw [decide_eq_true this.1, decide_eq_true this.2]
  rfl
end OC
set_option Elab.async false
set_option linter.all false
set_option maxRecDepth 100000
/-! lists of things, filled while the deck is drawn from -/
namespace OC
open PySem PySem.Spec PyProof.Rows L2
theorem cut_upto {xs : List V} {i : Int} (h0 : 0 ≤ i) : cutV xs none (some i) = xs.take i.toNat := by
  unfold cutV
  have e : HT.sIx xs.length xs.length (some i) = min i.toNat xs.length := by
    have := HT.sIx_nat xs.length xs.length i.toNat
    rw [show ((i.toNat : Nat) : Int) = i by omega] at this
    exact this
  rw [e, HT.sIx_none, List.drop_zero, Nat.sub_zero, ← List.take_eq_take_min]
structure Th (K : PySem.W.Frag) (H : Hp) (d c M : Addr) (vs : List V) (es : List PyData) : Prop where
  m : H M = some (.lst vs)
  nb : ¬ Bad d c M
  r : RepAll K H (fun a => Bad d c a ∨ a = M) vs es
section
variable {K : PySem.W.Frag} {H H' : Hp} {d c M : Addr} {t : Int} {vs : List V} {es : List PyData}
theorem Th.same (h : Th K H d c M vs es) (s : Same H H') : Th K H' d c M vs es := ⟨s _ _ h.m, h.nb, repAll_stays (Stays.of s) _ _ h.r⟩
theorem Th.kept (h : Th K H d c M vs es) (D : Deck H d c t) (k : Kept d c H H') : Th K H' d c M vs es :=
  ⟨k _ _ h.m (fun z => h.nb (.inl z)) (fun z => h.nb (.inr z)), h.nb, repAll_stays (Stays.kept2 D k (.inl (.inl rfl)) (.inl (.inr rfl))) _ _ h.r⟩
theorem Th.push (h : Th K H d c M vs es) {v : V} {e : PyData} (r : Rep K H (fun a => Bad d c a ∨ a = M) v e) : Th K (upd H M (.lst (vs ++ [v]))) d c M (vs ++ [v]) (es ++ [e]) := by
  have st : Stays (fun a => Bad d c a ∨ a = M) H (upd H M (.lst (vs ++ [v]))) := upd_stays (Stays.of (Same.refl H)) h.m (.inr rfl)
  exact ⟨upd_same, h.nb, repAll_append (repAll_stays st _ _ h.r) (.cons (rep_stays st _ _ r) .nil)⟩
theorem Th.new (D : Deck H d c t) (n : H M = none) (r : RepAll K H (Bad d c) vs es) : Th K (upd H M (.lst vs)) d c M vs es :=
  ⟨upd_same, D.fresh n, repAll_stays (Stays.of (same_upd n)) _ _ (repAll_fresh n _ _ r)⟩
theorem Th.len (h : Th K H d c M vs es) : vs.length = es.length := repAll_len h.r
end
end OC
set_option Elab.async false
set_option linter.all false
set_option maxRecDepth 100000
/-! across: the program's own rows, and what they are -/
namespace OC
open PySem PySem.Spec PyProof.Rows L2 Lin
def crossF (p : Int) (room : List (List Int)) (j : Nat) (r0 : List Int) : List Int := room.foldl (fun r b => r.set (fpR b) ((-(b.getD j 0)) % p)) r0
def crossR (p : Int) (n : Nat) (room : List (List Int)) (j : Nat) : List Int := crossF p room j ((List.replicate n 0).set j 1)
def freesR (n : Nat) (room : List (List Int)) : List Nat := (List.range n).filter fun j => !decide (j ∈ room.map fpR)
def acrossR (p : Int) (n : Nat) (room : List (List Int)) : List (List Int) := plainR p n ((freesR n room).map (crossR p n room))
theorem crossF_take {p : Int} {room : List (List Int)} {j i : Nat} {b r0 : List Int} (h : room[i]? = some b) : crossF p (room.take (i + 1)) j r0 = (crossF p (room.take i) j r0).set (fpR b) ((-(b.getD j 0)) % p) := by
  unfold crossF
  rw [List.take_add_one, h, List.foldl_append]
  rfl
theorem crossF_len (p : Int) (j : Nat) : ∀ (room : List (List Int)) (r0 : List Int), (crossF p room j r0).length = r0.length
  | [], _ => rfl
  | b :: room, r0 => by
    show (crossF p room j (r0.set (fpR b) _)).length = _
    rw [crossF_len p j room, List.length_set]
theorem crossF_ok {p : Int} (hp : 0 < p) (j : Nat) : ∀ (room : List (List Int)) (r0 : List Int), (∀ x ∈ r0, 0 ≤ x ∧ x < p) → ∀ x ∈ crossF p room j r0, 0 ≤ x ∧ x < p
  | [], _, h => h
  | b :: room, r0, h => crossF_ok hp j room _ fun x hx => by
    rcases List.mem_or_eq_of_mem_set hx with hx | rfl
    · exact h x hx
    · exact ⟨Int.emod_nonneg _ (by omega), Int.emod_lt_of_pos _ hp⟩
theorem crossR_ok {p : Int} (hp : 2 ≤ p) (n : Nat) (room : List (List Int)) (j : Nat) : (crossR p n room j).length = n ∧ ∀ x ∈ crossR p n room j, 0 ≤ x ∧ x < p := by
  refine ⟨?_, crossF_ok (by omega) j room _ fun x hx => ?_⟩
  · unfold crossR
    rw [crossF_len, List.length_set, List.length_replicate]
  · rcases List.mem_or_eq_of_mem_set hx with hx | rfl
    · rw [List.eq_of_mem_replicate hx]
      omega
    · omega
section
variable {q : Nat} [NeZero q]
theorem getD_set {r : List Int} {k : Nat} {v : Int} (hk : k < r.length) (i : Nat) : (r.set k v).getD i 0 = if i = k then v else r.getD i 0 := by
  by_cases h : i = k
  · subst h
    rw [if_pos rfl, gd_lt (by rw [List.length_set]; exact hk), List.getElem_set_self]
  · rw [if_neg h]
    by_cases hi : i < r.length
    · rw [gd_lt (by rw [List.length_set]; exact hi), List.getElem_set_ne (fun z => h z.symm), gd_lt hi]
    · rw [gd_ge (by rw [List.length_set]; omega), gd_ge (by omega)]
theorem cF_neg (x : Int) : cF (q := q) (-x) = -cF x := by
  have h := cF_sub (q := q) 0 x
  rw [Int.zero_sub, cF_zero] at h
  rw [h]
  grind
theorem crossF_sim {n : Nat} (j : Nat) : ∀ (room : List (List Int)) (bs : List (Nat × Vec q)) (r0 : List Int), RowsOk q n room → r0.length = n → bs.map (·.2) = room.map (toV (q := q)) → (∀ b ∈ bs, Lead b.2 b.1 ∧ b.1 < n) → bs.Pairwise (fun a b => a.1 < b.1) → (∀ b ∈ bs, r0.getD b.1 0 = 0) →
    toV (q := q) (crossF q room j r0) = fun i => toV r0 i + (crossV bs j i - unitV j i)
  | [], [], r0, _, _, _, _, _, _ => by
    funext i
    show toV r0 i = toV r0 i + (unitV j i - unitV j i)
    grind
  | [], _ :: _, _, _, _, e, _, _, _ => by cases e
  | _ :: _, [], _, _, _, e, _, _, _ => by cases e
  | c :: room, b :: bs, r0, h1, h2, e, hl, hi, hz => by
    rw [List.map_cons, List.map_cons] at e
    obtain ⟨e1, e2⟩ := List.cons.inj e
    obtain ⟨i1, i2⟩ := List.pairwise_cons.mp hi
    have hc := h1 c List.mem_cons_self
    have hb := hl b List.mem_cons_self
    have fj : fpR c = b.1 := fpR_lead (q := q) hc.2 (by rw [← e1]; exact hb.1)
    have hlt : fpR c < r0.length := by rw [fj, h2]; exact hb.2
    have ih := crossF_sim j room bs (r0.set (fpR c) ((-(c.getD j 0)) % q)) (fun x hx => h1 x (List.mem_cons_of_mem _ hx)) (by rw [List.length_set]; exact h2) e2 (fun x hx => hl x (List.mem_cons_of_mem _ hx)) i2 fun x hx => by
      rw [getD_set hlt, if_neg (by rw [fj]; have := i1 x hx; omega)]
      exact hz x (List.mem_cons_of_mem _ hx)
    show toV (q := q) (crossF q room j (r0.set (fpR c) ((-(c.getD j 0)) % q))) = _
    rw [ih]
    funext i
    show cF ((r0.set (fpR c) ((-(c.getD j 0)) % q)).getD i 0) + (crossV bs j i - unitV j i) = toV r0 i + ((-(b.2 j)) * unitV b.1 i + crossV bs j i - unitV j i)
    have ej : b.2 j = cF (c.getD j 0) := congrFun e1 j
    have hz0 := hz b List.mem_cons_self
    rw [getD_set hlt, fj, ej]
    unfold unitV
    by_cases hib : i = b.1
    · subst hib
      rw [if_pos rfl, if_pos rfl, cF_mod, cF_neg]
      show -cF (c.getD j 0) + _ = cF (r0.getD b.1 0) + _
      rw [hz0, cF_zero]
      grind
    · rw [if_neg hib, if_neg hib]
      show cF (r0.getD i 0) + _ = cF (r0.getD i 0) + _
      grind
theorem firsts_eq {n : Nat} : ∀ (room : List (List Int)) (bs : List (Nat × Vec q)), RowsOk q n room → bs.map (·.2) = room.map (toV (q := q)) → (∀ b ∈ bs, Lead b.2 b.1) → room.map fpR = bs.map (·.1)
  | [], [], _, _, _ => rfl
  | [], _ :: _, _, e, _ => by cases e
  | _ :: _, [], _, e, _ => by cases e
  | c :: room, b :: bs, h1, e, hl => by
    rw [List.map_cons, List.map_cons] at e
    obtain ⟨e1, e2⟩ := List.cons.inj e
    rw [List.map_cons, List.map_cons, firsts_eq room bs (fun x hx => h1 x (List.mem_cons_of_mem _ hx)) e2 fun x hx => hl x (List.mem_cons_of_mem _ hx), fpR_lead (q := q) (h1 c List.mem_cons_self).2 (by rw [← e1]; exact hl b List.mem_cons_self)]
/-- the rows by the free places, as vectors -/
theorem IsPF.cross (hF : Fld (q : Int)) {n : Nat} {room : List (List Int)} (h : IsPF q n room) : ∃ bs : List (Nat × Vec q), PF n bs ∧ bs.map (·.2) = room.map (toV (q := q)) ∧ ((freesR n room).map (crossR q n room)).map (toV (q := q)) = (frees n bs).map (crossV bs) := by
  obtain ⟨ok, bs, pf, e⟩ := h
  have ld : ∀ b ∈ bs, Lead b.2 b.1 := fun b hb => pf.leads (one_ne (q2 hF)) hb
  have ef := firsts_eq room bs ok e ld
  refine ⟨bs, pf, e, ?_⟩
  have e1 : freesR n room = frees n bs := by
    unfold freesR frees isFirst
    rw [ef]
  rw [e1, List.map_map]
  apply List.map_congr_left
  intro j hj
  obtain ⟨jn, jf⟩ := mem_frees.mp hj
  have hz : ∀ b ∈ bs, ((List.replicate n (0 : Int)).set j 1).getD b.1 0 = 0 := fun b hb => by
    rw [getD_set (by rw [List.length_replicate]; exact jn), if_neg (jf b hb), gd_lt (by rw [List.length_replicate]; exact pf.lt b hb), List.getElem_replicate]
  show toV (q := q) (crossF q room j ((List.replicate n 0).set j 1)) = crossV bs j
  rw [crossF_sim (n := n) j room bs _ ok (by rw [List.length_set, List.length_replicate]) e (fun b hb => ⟨ld b hb, pf.lt b hb⟩) pf.inc hz]
  funext i
  have eu : toV (q := q) ((List.replicate n (0 : Int)).set j 1) i = unitV j i := by
    show cF (((List.replicate n (0 : Int)).set j 1).getD i 0) = _
    rw [getD_set (by rw [List.length_replicate]; exact jn)]
    unfold unitV
    by_cases hij : i = j
    · rw [if_pos hij, if_pos hij, cF_one (q2 hF)]
    · rw [if_neg hij, if_neg hij]
      by_cases hi : i < n
      · rw [gd_lt (by rw [List.length_replicate]; exact hi), List.getElem_replicate, cF_zero]
      · rw [gd_ge (by rw [List.length_replicate]; omega), cF_zero]
  rw [eu]
  grind
theorem free_rows {p : Int} (hp : 2 ≤ p) (n : Nat) (room : List (List Int)) : RowsOk p n ((freesR n room).map (crossR p n room)) := fun r hr => by
  obtain ⟨j, _, rfl⟩ := List.mem_map.mp hr
  exact crossR_ok hp n room j
theorem acrossR_perp (hF : Fld (q : Int)) {n : Nat} {room : List (List Int)} (h : IsPF q n room) (w : Vec q) : Mk q (acrossR q n room) w ↔ Perp n (Mk q room) w := by
  obtain ⟨bs, pf, e, ec⟩ := h.cross hF
  unfold acrossR
  rw [plainR_mk hF (free_rows hF.1 n room)]
  unfold Mk
  rw [ec, ← e]
  exact pf.perp_spn w
theorem good (hF : Fld (q : Int)) (n : Nat) : Good (invF (q := q)) n := ⟨one_ne (q2 hF), invF_ok hF⟩
theorem acrossR_pf (hF : Fld (q : Int)) (n : Nat) (room : List (List Int)) : IsPF q n (acrossR q n room) := plainR_pf hF (free_rows hF.1 n room)
/-- a row is of the room just where it is worth 0 at all worlds across -/
theorem perp_across (hF : Fld (q : Int)) {n : Nat} {room : List (List Int)} (h : IsPF q n room) (x : Vec q) : Perp n (Mk q (acrossR q n room)) x ↔ Mk q room x := by
  obtain ⟨_, bs, pb, eb⟩ := id h
  obtain ⟨_, cs, pc, ec⟩ := acrossR_pf hF n room
  have := (good hF n).perp_perp pb pc (fun w => by
    have := acrossR_perp hF h w
    unfold Mk at this
    rwa [← eb, ← ec] at this) x
  unfold Mk
  rwa [← eb, ← ec]
/-! ### worth -/
end
theorem PFR.across {p : Int} (hF : Fld p) (n : Nat) (room : List (List Int)) : PFR p n (acrossR p n room) := PFR.of_plain hF (free_rows hF.1 n room)
end OC
set_option Elab.async false
set_option linter.all false
set_option maxRecDepth 100000
set_option maxHeartbeats 2000000
/-! repr of any thing, lists with dicts too: the modules' own dict is none of them -/
namespace OC
open PySem PySem.Spec PyProof.Rows L2
def HasSys (base : Heap) : Prop := ∃ o, base.get? sysModules = some o
section
variable {X : Cx} {pins : List (Addr × Obj)} {σ : L2.St} {H : Hp} {s : Shared} {bad : Addr → Prop}
theorem sys_none (hs : HasSys X.base) (I : Inv X pins σ H s) : H sysModules = none := by
  obtain ⟨o, e⟩ := hs
  exact (I.bs _ _ e).2
mutual
theorem rep_readsS (hs : HasSys X.base) (I : Inv X pins σ H s) : ∀ (d : PyData) (v : V) (u : Value), Rep X.K H bad v d → RelV v u → ∃ as, Reads s.heap u d as ∧ sysModules ∉ as
  | .none, _, _, h, r => by cases h; cases r; exact ⟨_, .none, nofun⟩
  | .bool b, _, _, h, r => by cases h; cases r; exact ⟨_, .bool b, nofun⟩
  | .int i, _, _, h, r => by cases h; obtain ⟨t, rfl⟩ := r; exact ⟨_, .int i t, nofun⟩
  | .str x, _, _, h, r => by cases h; obtain ⟨t, rfl⟩ := r; exact ⟨_, .str x t, nofun⟩
  | .list ds, _, _, h, r => by
    cases h with
    | @lst a xs _ hq hb ha =>
      cases r
      have ne : sysModules ≠ a := fun z => by
        have := sys_none hs I
        rw [z, hq] at this
        cases this
      obtain ⟨its, rv, ⟨o, n, ho, hc, _, hd⟩, _⟩ := I.list (.inl (.inl hq))
      obtain ⟨as, q, f⟩ := repAll_readsS hs I ds _ its ha rv
      refine ⟨_, .list ho hc hd q, fun m => ?_⟩
      first
        | exact f m
        | (rcases List.mem_cons.mp m with z | m; exact ne z; exact f m)
  | .tuple ds, _, _, h, r => by
    cases h with
    | tup hq ha =>
      cases r
      obtain ⟨its, rv, ⟨o, ho, hc, n, hd⟩, _⟩ := I.tuple hq
      obtain ⟨as, q, f⟩ := repAll_readsS hs I ds _ its ha rv
      exact ⟨_, .tuple ho hc hd q, f⟩
  | .dict kvs, v, u, h, r => by
    cases h with
    | @dct a ks hq hf =>
      cases r
      obtain ⟨_, hsys, vs, kv, o, es, ep, ho, hx, hd, _, hp, _⟩ := I.hok a _ hq
      obtain ⟨r1, r2⟩ := reads_pairs (h := s.heap) hp kv hf
      refine ⟨a :: [] ++ [], .dict ho hx.1 hd (by rw [List.map_map]; exact r1) (by rw [List.map_map]; exact r2), fun m => ?_⟩
      have e : sysModules = a := by simpa using m
      rw [← e] at hsys
      simp at hsys
theorem repAll_readsS (hs : HasSys X.base) (I : Inv X pins σ H s) : ∀ (ds : List PyData) (vs : List V) (us : List Value), RepAll X.K H bad vs ds → Vals vs us → ∃ as, ReadsAll s.heap us ds as ∧ sysModules ∉ as
  | [], _, _, h, r => by cases h; cases r; exact ⟨_, .nil, nofun⟩
  | d :: ds, _, _, h, r => by
    cases h with
    | cons h1 h2 =>
      cases r with
      | cons r1 r2 =>
        obtain ⟨as, q1, f1⟩ := rep_readsS hs I d _ _ h1 r1
        obtain ⟨bs, q2, f2⟩ := repAll_readsS hs I ds _ _ h2 r2
        refine ⟨_, .cons q1 q2, fun m => ?_⟩
        rcases List.mem_append.mp m with m | m
        · exact f1 m
        · exact f2 m
end
end
/-- what repr asks of a thing, wherever dicts and lists stand in it -/
structure FitS (d : PyData) : Prop where
  len : d.shown.length ≤ 10000000
  sh : d.showable = true
  dp : d.depth ≤ 55
def rReprS (K : PySem.W.Frag) (bad : Addr → Prop) : List V → Hp → VK → Prop := fun xs H Q => ∃ v d, xs = [v] ∧ Rep K H bad v d ∧ FitS d ∧ Q (.str d.shown) H
theorem call_reprS {X : Cx} {k : Nat} (bad : Addr → Prop) (hs : HasSys X.base) (hr : Room k X.A) (hgd : X.A.guards = some []) : CallR X (.builtin "repr") (rReprS X.K bad) := by
  intro pins s σ H xs us Q I r h
  obtain ⟨v, d, rfl, hv, ⟨fl, fs, fd⟩, q⟩ := h
  cases r with
  | cons r1 r2 =>
    cases r2
    have hz : d.shown.length ≤ sizeLine := Nat.le_trans fl (by decide)
    have hu := hr.units
    obtain ⟨as, rd, hsm⟩ := rep_readsS hs I d v _ hv r1
    cases hv with
    | non => cases r1; exact P.repr_of_none ⟨.str _, H, I.tok _, ⟨_, rfl⟩, q⟩
    | bl b => cases r1; exact P.repr_of_bool ⟨.str _, H, I.tok _, ⟨_, rfl⟩, q⟩
    | int i =>
      obtain ⟨t, rfl⟩ := r1
      exact P.repr_of_int (by simpa [PyData.showable] using fs) ⟨.str _, H, I.tok _, ⟨_, rfl⟩, q⟩
    | str x =>
      obtain ⟨t, rfl⟩ := r1
      exact P.repr_of_str ⟨.str _, H, I.tok _, ⟨_, rfl⟩, q⟩ hz
    | lst _ _ _ => cases r1; exact repr_of_reads' rd fs (fun _ => hsm) hgd (by omega) (fun _ _ e => e) (fun h' u tk hk => ⟨.str _, H, I.kept hk, ⟨_, rfl⟩, q⟩) hz
    | tup _ _ => cases r1; exact repr_of_reads' rd fs (fun _ => hsm) hgd (by omega) (fun _ _ e => e) (fun h' u tk hk => ⟨.str _, H, I.kept hk, ⟨_, rfl⟩, q⟩) hz
    | dct _ _ => cases r1; exact repr_of_reads' rd fs (fun _ => hsm) hgd (by omega) (fun _ _ e => e) (fun h' u tk hk => ⟨.str _, H, I.kept hk, ⟨_, rfl⟩, q⟩) hz
/-! ### the end, with that -/
section
variable {P : Program} {w : World} {K : PySem.W.Frag} {mg mb : Str → Option Value} {CX : CXT} {k : Nat} {fa a : Addr} {fd : FuncData} {x : Str} {sp : Sp} {s₁ : Shared} {vs : List Value} {ns : List Int}
theorem law_callS (KX : K.In s₁.heap) (hns : s₁.heap.Ns mainGlobals mg) (hb : s₁.heap.Ns builtinsNs mb) (hbb : ∀ x : Str, x ≠ "__name__" → mb x = bootBuiltins x) (hsy : ∃ mm, s₁.heap.Ns sysModules mm)
    (hlim : s₁.heap.NoLimit) (hg : s₁.gens = #[]) (ha : s₁.heap.get? a = some { cls := .type "list", data := .seq vs.toArray }) (hi : IntsAre vs ns) (hl : ns.length ≤ sizeLine) (hr : Room k callerA)
    (F : ∀ base : Heap, K.In base → base.Ns mainGlobals mg → HasSys base → FnG P w K mg base CX k fa fd [x] sp)
    (hbind : ∀ (s : Shared) (u : Value), BindsTo s fd ⟨[u], []⟩ [(x, u)])
    (hsp : ∀ H : Hp, Only H → SqL K H a (ns.map V.int) → sp [.ref a] H (fun v _ => v = .bl true) fun _ _ _ => False) (hCX : ∀ H e s', CX [] H s₁ (fun _ _ _ => False) e s' → False) :
    codeAny (model P w) callerA (.call (.ref fa) ⟨[.ref a], []⟩) (fun r s' => r = .ok (.ret (.bool true)) ∧ OldK s₁.heap s'.heap ∧ s'.os = s₁.os ∧ AllBare s'.gens) s₁ := by
  obtain ⟨mm, hmm⟩ := hsy
  -- a promise that asks for the modules' dict is one of those that ask for it anyway
  have core : ∀ H : Hp, Only H → sp [.ref a] H (fun v _ => v = .bl true) (fun _ _ _ => False) → HOk P w H s₁.heap → (∀ b, H b ≠ none → b = a) → (H a ≠ none → K.lookup a = none) →
      codeAny (model P w) callerA (.call (.ref fa) ⟨[.ref a], []⟩) (fun r s' => r = .ok (.ret (.bool true)) ∧ OldK s₁.heap s'.heap ∧ s'.os = s₁.os ∧ AllBare s'.gens) s₁ := by
    intro H hO hsp hok hA hK
    have off : ∀ {b : Addr} {o : Obj} {es : Array DictEntry} {ep : Nat}, s₁.heap.get? b = some o → o.data = .dict es ep → H b = none := by
      intro b o es ep e d
      apply Classical.byContradiction
      intro nb
      have eb := hA b nb
      subst eb
      rw [ha] at e
      have eo := Option.some.inj e
      subst eo
      cases (show Data.seq vs.toArray _ = Data.dict es ep from d)
    have nsB : ∀ {b : Addr} {m : Str → Option Value}, s₁.heap.Ns b m → (hidT s₁.heap H).Ns b m := by
      rintro b m ⟨o, es, ep, e, d, r⟩
      exact ⟨o, es, ep, hidT_get e (off e d), d, r⟩
    have inB : K.In (hidT s₁.heap H) := by
      intro b o e
      refine hidT_get (KX b o e) ?_
      apply Classical.byContradiction
      intro nb
      have eb := hA b nb
      subst eb
      rw [hK nb] at e
      cases e
    obtain ⟨mc, l1, l2⟩ := hlim
    have M : Mod K mg (hidT s₁.heap H) := ⟨inB, nsB hns, ⟨mb, nsB hb, hbb⟩, ⟨mc, nsB l1, l2⟩⟩
    have hs : HasSys (hidT s₁.heap H) := by
      obtain ⟨o, es, ep, e, _⟩ := nsB hmm
      exact ⟨o, e⟩
    have e0 : Env0 P w K mg (hidT s₁.heap H) callerA [] s₁ H :=
      ⟨rfl, M, fun b o e => of_hidT e, Nat.le_of_eq (hidT_size _ _), trivial, fun b hb => (nomatch (show b ∈ ([] : List Addr) from hb)), hok, .of_eq hg⟩
    have run := (F _ inB (nsB hns) hs).go callerA [] s₁ H ⟨[.ref a], []⟩ [.ref a] [.ref a] _ _ hr rfl e0 (hbind s₁ (.ref a)) (.cons rfl .nil) hsp
    apply codeAny_mono run
    intro r s' h
    rcases r with e | fl
    · exact (hCX H e s' h).elim
    · rcases fl with _ | _ | _ | u
      all_goals first
        | exact (show False from h).elim
        | skip
      obtain ⟨v, H', os, bare, un, hok', r', q⟩ := h
      cases (show v = .bl true from q)
      cases (show u = Value.bool true from r')
      refine ⟨rfl, OldK.of_keep ?_, os, bare⟩
      intro b o e
      rcases hO b with z | ⟨ob, xs, z⟩
      · exact un.keep b o e z (fun y => (nomatch (show b ∈ ([] : List Addr) from y))) (fun y => (nomatch y))
      · have e1 := (hok b _ z).1
        have e2 := (hok' b _ (un.frzs b ob _ z)).1
        rw [e] at e1
        rw [Option.some.inj e1]
        exact e2
  have rv := vals_ints hi
  have lv := hi.length
  cases hk : K.lookup a with
  | some o =>
    have e := KX a o hk
    rw [ha] at e
    have eo := (Option.some.inj e).symm
    subst eo
    have only : Only (fun _ => none) := fun _ => .inl rfl
    have sq : SqL K (fun _ => none) a (ns.map V.int) := .inr ⟨_, vs.toArray, _, hk, rfl, rfl, rfl, by rw [List.size_toArray, lv]; exact hl, by simpa using rv⟩
    exact core (fun _ => none) only (hsp _ only sq) (fun b u z => (nomatch (show (none : Option HO) = some u from z))) (fun b z => (z rfl).elim) (fun z => (z rfl).elim)
  | none =>
    let H0 : Hp := upd (fun _ => none) a (.frz { cls := .type "list", data := .seq vs.toArray } (.lst (ns.map V.int)))
    have at_a : H0 a = some (.frz { cls := .type "list", data := .seq vs.toArray } (.lst (ns.map V.int))) := upd_same
    have off : ∀ b, b ≠ a → H0 b = none := fun b n => upd_ne n
    have only : Only H0 := by
      intro b
      by_cases hb : b = a
      · subst hb
        exact .inr ⟨_, _, at_a⟩
      · exact .inl (off b hb)
    refine core H0 only (hsp _ only (.inl (.inr ⟨_, at_a⟩))) ?_ ?_ (fun _ => hk)
    · intro b u z
      by_cases hb : b = a
      · subst hb
        rw [at_a] at z
        have ez := (Option.some.inj z).symm
        subst ez
        exact ⟨ha, by rw [List.length_map]; exact hl, vs, _, rv, ha⟩
      · rw [off b hb] at z
        cases z
    · intro b z
      apply Classical.byContradiction
      intro hb
      exact z (off b hb)
end
theorem walk_ofS {l : PySem.W.OpenLaw} {n k : Nat} {q : Program} {loose : List Str} {XP : (Str → Option Value) → Heap → Prop} {YP : World → Heap → Prop} {d : DefRec} {K : Params → PySem.W.Frag} {CX : World → CXT} {sp : World → Sp} {x : Str}
    (hn : l.most = some n) (hn2 : n ≤ sizeLine) (hdf : d.params.defaults = []) (hr : Room k callerA) (him : importsNone q = true) (hY : ∀ (w : World) (h : Heap), YP w h → (K w.params).In h) (F : ∀ (w : World) (mg : Str → Option Value) (fa : Addr) (h : Heap), (K w.params).In h → h.Ns mainGlobals mg → mg d.name = some (.ref fa) → ∃ fd : FuncData, (∀ (s : Shared) (u : Value), BindsTo s fd ⟨[u], []⟩ [(x, u)]) ∧ ∀ base : Heap, (K w.params).In base → base.Ns mainGlobals mg → HasSys base → FnG l.prog w (K w.params) mg base (CX w) k fa fd [x] (sp w)) (hsp : ∀ (w : World) (H : Hp) (a : Addr) (ns : List Int), ns.length ≤ n → Only H → SqL (K w.params) H a (ns.map V.int) → sp w [.ref a] H (fun v _ => v = .bl true) fun _ _ _ => False) (hCX : ∀ (w : World) (H : Hp) (s : Shared) (e : Value) (s' : Shared), CX w [] H s (fun _ _ _ => False) e s' → False) : PySem.W.WalkO q loose XP YP l.row.toRowW d [] (fun f vs => PySem.call f vs) := by
  apply Att.attach_call hn hdf
  intro w s₀ s₁ mg mb fa o pm cd doc a vs ns G Y ho hd hcd hmg hobj hints hlen hg
  obtain ⟨fd, hb, hF⟩ := F w mg fa _ (hY w _ Y) G.T.g hmg
  have sy : ∃ mm, s₁.heap.Ns sysModules mm := by
    obtain ⟨mm, h1, _⟩ := (G.T.seer him).mods
    exact ⟨mm, h1⟩
  exact law_callS (hY w _ Y) G.T.g G.T.b G.T.builtins sy G.T.nolimit hg hobj hints (Nat.le_trans hlen hn2) hr hF hb (fun H hO hS => hsp w H a ns hlen hO hS) fun H e s' => hCX w H s₁ e s'
end OC
set_option Elab.async false
set_option linter.all false
set_option maxRecDepth 100000
/-! how rows are made: marked rows, taken off -/
namespace Lin
section
variable {p : Nat} [NeZero p]
theorem lin_snoc : ∀ (fs : List (Fin p)) (vs : List (Vec p)) (c : Fin p) (v : Vec p), fs.length = vs.length → lin (fs ++ [c]) (vs ++ [v]) = addV (lin fs vs) (mulV c v)
  | [], [], c, v, _ => by
    show addV (mulV c v) zeroV = addV zeroV (mulV c v)
    funext i
    show c * v i + 0 = 0 + c * v i
    grind
  | [], _ :: _, _, _, e => by cases e
  | _ :: _, [], _, _, e => by cases e
  | f :: fs, u :: us, c, v, e => by
    show addV (mulV f u) (lin (fs ++ [c]) (us ++ [v])) = addV (addV (mulV f u) (lin fs us)) (mulV c v)
    rw [lin_snoc fs us c v (Nat.succ.inj e)]
    funext i
    show f * u i + (lin fs us i + c * v i) = f * u i + lin fs us i + c * v i
    grind
/-- no row is made by those ahead of it -/
def Free (vs : List (Vec p)) : Prop := ∀ k v, vs[k]? = some v → ¬ Spn (vs.take k) v
theorem Free.init {vs : List (Vec p)} {v : Vec p} (h : Free (vs ++ [v])) : Free vs ∧ ¬ Spn vs v := by
  constructor
  · intro k u hu
    have hk : k < vs.length := (List.getElem?_eq_some_iff.mp hu).1
    have := h k u (by rw [List.getElem?_append_left hk]; exact hu)
    rwa [List.take_append_of_le_length (by omega)] at this
  · have := h vs.length v (by rw [List.getElem?_append_right (Nat.le_refl _), Nat.sub_self]; rfl)
    rwa [List.take_append_of_le_length (Nat.le_refl _), List.take_length] at this
theorem Free.zero (inv : Fin p → Fin p) (hinv : ∀ a : Fin p, a ≠ 0 → inv a * a = 1) : ∀ (m : Nat) (vs : List (Vec p)) (fs : List (Fin p)), vs.length = m → Free vs → fs.length = vs.length → lin fs vs = zeroV → ∀ f ∈ fs, f = 0
  | 0, vs, fs, hm, _, hl, _ => by
    intro f hf
    rw [hm] at hl
    rw [List.length_eq_zero_iff.mp hl] at hf
    cases hf
  | m + 1, vs, fs, hm, hF, hl, hz => by
    obtain ⟨vs', v, rfl⟩ : ∃ vs' v, vs = vs' ++ [v] := by
      rcases List.eq_nil_or_concat vs with h | ⟨a, b, h⟩
      · rw [h] at hm; cases hm
      · exact ⟨a, b, by rw [h]; exact List.concat_eq_append⟩
    obtain ⟨fs', c, rfl⟩ : ∃ fs' c, fs = fs' ++ [c] := by
      rcases List.eq_nil_or_concat fs with h | ⟨a, b, h⟩
      · rw [h, hm] at hl; cases hl
      · exact ⟨a, b, by rw [h]; exact List.concat_eq_append⟩
    rw [List.length_append, List.length_append] at hl
    have hl' : fs'.length = vs'.length := by simpa using hl
    obtain ⟨h1, h2⟩ := hF.init
    rw [lin_snoc fs' vs' c v hl'] at hz
    have c0 : c = 0 := by
      apply Classical.byContradiction
      intro hc
      apply h2
      have hS := spn_sub vs'
      have h3 : Spn vs' (lin fs' vs') := ⟨fs', rfl⟩
      have h4 := hS.mul (-(inv c)) h3
      have e : v = mulV (-(inv c)) (lin fs' vs') := by
        funext i
        have e1 := congrFun hz i
        have e1 : lin fs' vs' i + c * v i = 0 := e1
        have e2 := hinv c hc
        show v i = -(inv c) * lin fs' vs' i
        have e3 : lin fs' vs' i = -(c * v i) := by grind
        rw [e3]
        have : inv c * c * v i = v i := by rw [e2]; grind
        grind
      rw [e]
      exact h4
    have hz' : lin fs' vs' = zeroV := by
      funext i
      have e1 := congrFun hz i
      have e1 : lin fs' vs' i + c * v i = 0 := e1
      rw [c0] at e1
      show lin fs' vs' i = 0
      grind
    intro f hf
    rcases List.mem_append.mp hf with hf | hf
    · exact Free.zero inv hinv m vs' fs' (by rw [List.length_append] at hm; simpa using hm) h1 hl' hz' f hf
    · have : f = c := by simpa using hf
      rw [this]
      exact c0
end
end Lin
namespace OC
open PySem PySem.Spec PyProof.Rows L2 Lin
section
variable {q : Nat} [NeZero q]
theorem toV_plus {x y : List Int} (h : x.length = y.length) (m : Int) : toV (q := q) (plusR q x y m) = addV (toV x) (mulV (cF m) (toV y)) := by
  funext i
  show cF ((plusR q x y m).getD i 0) = cF (x.getD i 0) + cF m * cF (y.getD i 0)
  unfold plusR
  by_cases hi : i < x.length
  · rw [getD_zipWith _ h hi, cF_mod, cF_add, cF_mul]
  · rw [gd_ge (by rw [List.length_zipWith]; omega), gd_ge (r := x) (by omega), gd_ge (r := y) (by omega), cF_zero]
    grind
end
end OC
set_option Elab.async false
set_option linter.all false
set_option maxRecDepth 100000
set_option maxHeartbeats 2000000
namespace OC
open PySem PySem.Spec PyProof.Rows L2
/-! ### a tuple taken no times -/
theorem tuple_mul0 (l : Addr) (its : Array Value) (m : Nat) (od : Option Addr) (so : Array (Option Value)) (u : Tok) (hne : its.isEmpty = false) :
    Meets (Builtin.«tuple.__mul__» ⟨[.ref l, .int 0 u], []⟩) (fun _ R s => s.heap.get? l = some { cls := .type "tuple", dict := od, data := .seq its m, slots := so } ∧ R (.ok (.ret (Value.ref s.heap.objs.size))) { s with heap := s.heap.push { cls := Value.type "tuple", data := Data.seq #[] }, toks := s.toks }) := by
  refine .of_wp fun prog w A R s hh => ?_
  obtain ⟨hp, g, d, tk, os⟩ := s
  obtain ⟨hl, hR⟩ := hh
  have fi := AutoSeq1.idx_int
  have c0 : (decide ((0 : Int) < -(2 ^ 63)) || decide ((0 : Int) ≥ 2 ^ 63)) = false := by decide
  have c1 : (its.isEmpty || (0 : Int) == 1) = false := by rw [hne]; rfl
  have c2 : (decide ((0 : Int) ≤ 0) || its.isEmpty) = true := by simp
  wp_walk using wpAny_loadPart' hl
  first
    | exact ⟨_, rfl, hR⟩
    | (repeat (first
        | (refine wpAny_ite_false (decide_eq_false (by rw [c0]; exact Bool.false_ne_true)) ?_; wp_walk using wpAny_loadPart' hl)
        | (refine wpAny_ite_false (decide_eq_false (by rw [c1]; exact Bool.false_ne_true)) ?_; wp_walk using wpAny_loadPart' hl)
        | (refine wpAny_ite_true (decide_eq_true (by rw [c2])) ?_; wp_walk using wpAny_loadPart' hl))
       exact ⟨_, rfl, hR⟩)
/-- t * n, n from 0 on, whichever tuple it is -/
def rRepZ (K : PySem.W.Frag) : R2 := fun x y H Q => ∃ l k xs, x = .ref l ∧ y = .int k ∧ SqT K H l xs ∧ xs ≠ [] ∧ 0 ≤ k ∧ k ≤ 1000 ∧ xs.length ≤ 1000 ∧ ∀ p H', Same H H' → SqT K H' p (List.replicate k.toNat xs).flatten → Q (.ref p) H'
theorem op_repZ {X : Cx} : OpR X (binaryOp .Mult) (rRepZ X.K) := by
  intro pins s σ H x y v u Q I rx ry h
  obtain ⟨l, k, xs, ex, ey, hT, hne, h1, h2, hz, q⟩ := h
  by_cases hk : k = 0
  · subst hk ex ey
    cases rx
    obtain ⟨t, rfl⟩ := ry
    obtain ⟨its, r, ⟨⟨cls, dd, data, sl⟩, ho, hc, n, hd⟩, hs⟩ := I.tuple hT
    simp only at hc hd
    subst hc hd
    have hi : its.toArray.isEmpty = false := by
      cases its with
      | nil => exact absurd (List.eq_nil_of_length_eq_zero (by rw [r.length]; rfl)) hne
      | cons a b => rfl
    refine wpAny_binaryOp_repeat_ref (T := "tuple") (U := "int") (by decide) ⟨_, ho, rfl⟩ (fun s' => typeIs_int s' 0 t) noFill_tuple_mul F.fills_int_mul F.slot_int_rmul repeat_tuple F.slot_int_index.lookup ?_
    refine call_meets F.slot_int_rmul (typeIs_int s 0 t) F.entry_int_rmul (F.args_int_rmul_2 _ _) (int_rmul_tuple 0 t l its.toArray n dd sl) ⟨ho, rfl, ⟨_, ho, rfl⟩, ?_⟩
    refine call_meets F.slot_tuple_mul ⟨_, ho, rfl⟩ F.entry_tuple_mul (F.args_tuple_mul_2 _ _) (tuple_mul0 l its.toArray n dd sl t hi) ⟨ho, ?_⟩
    have fr := I.hok.fresh (Nat.le_refl s.heap.objs.size)
    exact ⟨.ref s.heap.objs.size, _, I.laid (t' := s.toks) (o := .tup []) (fun b ob z => Heap.get?_push_of_some _ z) (Nat.le_refl _) ⟨Nat.zero_le _, [], .nil, IsTup.new _ _⟩, rfl, q _ _ (same_upd fr) (.inl (.inl upd_same))⟩
  · exact op_repB pins s σ H x y v u Q I rx ry ⟨l, k, xs, ex, ey, hT, hne, by omega, h2, hz, q⟩
end OC
set_option Elab.async false
set_option linter.all false
set_option maxRecDepth 100000
set_option maxHeartbeats 4000000
/-! the text of a tuple of rows tells the rows -/
set_option Elab.async false
set_option linter.all false
set_option maxRecDepth 100000
set_option maxHeartbeats 4000000
/-! what rows make, by p -/
namespace OC
open PySem PySem.Spec PyProof.Rows L2 Lin
/-- the rows make the row -/
def InR (p : Int) (rs : List (List Int)) (r : List Int) : Prop := ∀ (q : Nat) (_ : NeZero q), p = (q : Int) → Mk q rs (toV (q := q) r)
theorem InR.mem {p : Int} {rs : List (List Int)} {r : List Int} (h : r ∈ rs) : InR p rs r := fun q _ _ => spn_mem (List.mem_map_of_mem h)
theorem InR.mono {p : Int} {rs ts : List (List Int)} {r : List Int} (h : ∀ x ∈ rs, InR p ts x) (hr : InR p rs r) : InR p ts r := fun q z e =>
  spn_sub_of (fun v hv => by
    obtain ⟨x, mx, rfl⟩ := List.mem_map.mp hv
    exact h x mx q z e) (hr q z e)
theorem toV_noughts {q : Nat} [NeZero q] (n : Nat) : toV (q := q) (List.replicate n 0) = zeroV := by
  funext i
  unfold toV zeroV
  rw [show (List.replicate n (0 : Int)).getD i 0 = 0 by
    rw [List.getD_eq_getElem?_getD]
    by_cases h : i < n
    · simp [h]
    · simp [h]]
  exact cF_zero
theorem InR.noughts (p : Int) (rs : List (List Int)) (n : Nat) : InR p rs (List.replicate n 0) := fun q z e => by
  rw [toV_noughts]
  exact (spn_sub _).zero
theorem InR.plus {p : Int} {rs : List (List Int)} {x y : List Int} (m : Int) (hl : x.length = y.length) (hx : InR p rs x) (hy : InR p rs y) : InR p rs (plusR p x y m) := fun q z e => by
  subst e
  rw [toV_plus hl]
  exact (spn_sub _).add (hx q z rfl) ((spn_sub _).mul _ (hy q z rfl))
theorem hasR_in {p : Int} (hF : Fld p) {n : Nat} {rs : List (List Int)} {r : List Int} (h : RowsOk p n rs) (hr : RowsOk p n [r]) : hasR p n rs r = true ↔ InR p rs r := by
  obtain ⟨q, rfl, z, hq⟩ := to_q hF
  unfold hasR
  rw [decide_eq_true_iff, plainR_has hF h hr]
  constructor
  · intro hm q' z' e
    have : q = q' := by omega
    subst this
    exact hm
  · intro hm
    exact hm q z rfl
theorem plain_same {p : Int} (hF : Fld p) {n : Nat} {one other : List (List Int)} (h1 : RowsOk p n one) (h2 : RowsOk p n other) (a : ∀ r ∈ one, InR p other r) (b : ∀ r ∈ other, InR p one r) : plainR p n one = plainR p n other := by
  obtain ⟨q, rfl, z, hq⟩ := to_q hF
  refine plainR_congr hF h1 h2 fun x => ⟨fun hx => ?_, fun hx => ?_⟩
  · exact spn_sub_of (fun v hv => by
      obtain ⟨y, my, rfl⟩ := List.mem_map.mp hv
      exact a y my q z rfl) hx
  · exact spn_sub_of (fun v hv => by
      obtain ⟨y, my, rfl⟩ := List.mem_map.mp hv
      exact b y my q z rfl) hx
theorem plain_one_more {p : Int} (hF : Fld p) {n : Nat} {rs : List (List Int)} {r : List Int} (h : RowsOk p n rs) (hr : RowsOk p n [r]) : (plainR p n (rs ++ [r])).length = (plainR p n rs).length + (if hasR p n rs r = true then 0 else 1) := by
  by_cases hh : hasR p n rs r = true
  · rw [if_pos hh]
    exact of_decide_eq_true hh
  · rw [if_neg hh]
    obtain ⟨q, rfl, z, hq⟩ := to_q hF
    refine plainR_more hF h hr fun hm => hh ?_
    unfold hasR
    rw [decide_eq_true_iff, plainR_has hF h hr]
    exact hm
/-- a row so many times, and made rows put to it: it is made back -/
theorem InR.back {p : Int} (hF : Fld p) {ts : List (List Int)} {r own : List Int} {m : Int} (m0 : 1 ≤ m) (m1 : m < p) {n : Nat} (hr : r.length = n) (h : InR p ts own) (e : own = plusR p (List.replicate n 0) r m ∨ ∃ x, InR p ts x ∧ x.length = n ∧ own = plusR p (plusR p (List.replicate n 0) r m) x 1) : InR p ts r := fun q z ep => by
  subst ep
  obtain ⟨b, b0, b1, eb⟩ := hF.2 m m0 m1
  have q2 : 2 ≤ q := by have := hF.1; omega
  have hone : cF (q := q) b * cF (q := q) m = 1 := by
    rw [← cF_mul, Int.mul_comm, ← cF_mod, eb, cF_one q2]
  have hS := spn_sub (ts.map (toV (q := q)))
  have key : ∀ y : Vec q, Spn (ts.map (toV (q := q))) y → y = mulV (cF m) (toV r) → Spn (ts.map (toV (q := q))) (toV r) := by
    intro y hy ey
    have := hS.mul (cF (q := q) b) hy
    rw [ey] at this
    have e2 : mulV (cF (q := q) b) (mulV (cF m) (toV r)) = toV r := by
      funext i
      show cF b * (cF m * toV r i) = toV r i
      grind
    rwa [e2] at this
  have lz : (List.replicate n (0 : Int)).length = r.length := by rw [List.length_replicate, hr]
  have e0 : toV (q := q) (plusR q (List.replicate n 0) r m) = mulV (cF m) (toV r) := by
    rw [toV_plus lz, toV_noughts, zero_add]
  rcases e with rfl | ⟨x, hx, lx, rfl⟩
  · exact key _ (h q z rfl) e0
  · have l1 : (plusR (q : Int) (List.replicate n 0) r m).length = x.length := by
      rw [plus_len lz, List.length_replicate, lx]
    have h1 := h q z rfl
    unfold Mk at h1
    rw [toV_plus l1, e0] at h1
    refine key _ (hS.less 1 h1 (hx q z rfl)) ?_
    funext i
    show (cF m * toV r i + cF 1 * toV x i) - 1 * toV x i = cF m * toV r i
    rw [cF_one q2]
    grind
end OC
set_option Elab.async false
set_option linter.all false
set_option maxRecDepth 100000
set_option maxHeartbeats 4000000
/-! a display of one pair whose key is a tuple -/
set_option Elab.async false
set_option linter.all false
set_option maxRecDepth 100000
set_option maxHeartbeats 4000000
/-! dicts whose keys are rows; all rows that rows make -/
namespace OC
open PySem PySem.Spec PyProof.Rows L2 Lin
/-- a method's rule inside a comprehension: K by its name -/
theorem pe_bmK {X : Cx} {K : PySem.W.Frag} {e : Expr} {T : String} {r : V → List V → Hp → VK → Prop} {to : TE} {t : TA} (hK : X.K = K) (h : PE X e (tBM X.K T r to t)) : PE X e (tBM K T r to t) := hK ▸ h
theorem RowsAt.tk2 {K : PySem.W.Frag} {H H' : Hp} {a : Addr} {rs : List (List Int)} (t : Tk H H') (h : RowsAt K H a rs) : RowsAt K H' a rs := by
  obtain ⟨ws, h1, h2⟩ := h
  exact ⟨ws, t K _ _ h1, dpAll_tk t _ _ (noL_rows rs) h2⟩
end OC
set_option Elab.async false
set_option linter.all false
set_option maxRecDepth 100000
set_option maxHeartbeats 4000000
/-! lists of rows that stand by themselves; all rows -/
namespace OC
open PySem PySem.Spec PyProof.Rows L2
inductive TAll (H : Hp) : List V → List (List Int) → Prop
  | nil : TAll H [] []
  | cons {b : Addr} {g : List Int} {vs : List V} {gs : List (List Int)} : H b = some (.tup (g.map V.int)) → TAll H vs gs → TAll H (.ref b :: vs) (g :: gs)
theorem TAll.same {H H' : Hp} (s : Same H H') : ∀ {vs : List V} {gs : List (List Int)}, TAll H vs gs → TAll H' vs gs
  | _, _, .nil => .nil
  | _, _, .cons h t => .cons (s _ _ h) (t.same s)
theorem TAll.app {H : Hp} : ∀ {vs us : List V} {gs hs : List (List Int)}, TAll H vs gs → TAll H us hs → TAll H (vs ++ us) (gs ++ hs)
  | _, _, _, _, .nil, h => h
  | _, _, _, _, .cons h t, h2 => .cons h (t.app h2)
theorem TAll.len {H : Hp} : ∀ {vs : List V} {gs : List (List Int)}, TAll H vs gs → vs.length = gs.length
  | _, _, .nil => rfl
  | _, _, .cons _ t => by rw [List.length_cons, List.length_cons, t.len]
theorem TAll.get {H : Hp} : ∀ {vs : List V} {gs : List (List Int)} {i : Nat} {v : V}, TAll H vs gs → vs[i]? = some v → ∃ b g, v = .ref b ∧ gs[i]? = some g ∧ H b = some (.tup (g.map V.int))
  | _, _, _, _, .nil, h => by simp at h
  | _, _, 0, _, .cons (b := b) (g := g) h t, e => by cases e; exact ⟨b, g, rfl, rfl, h⟩
  | _, _, i + 1, v, .cons h t, e => t.get (i := i) (v := v) e
theorem TAll.mut {H : Hp} {D : Addr} {xs : List V} {o : HO} (e : H D = some (.lst xs)) : ∀ {vs : List V} {gs : List (List Int)}, TAll H vs gs → TAll (upd H D o) vs gs
  | _, _, .nil => .nil
  | _, _, .cons h t => .cons (by rw [upd_ne (fun z => by rw [z, e] at h; cases h)]; exact h) (t.mut e)
end OC
set_option Elab.async false
set_option linter.all false
set_option maxRecDepth 100000
set_option maxHeartbeats 4000000
/-! min and max of a tuple of ints -/
set_option Elab.async false
set_option linter.all false
set_option maxRecDepth 100000
set_option maxHeartbeats 4000000
/-! what is left of a row -/
namespace OC
open PySem PySem.Spec PyProof.Rows L2 Lin
theorem left_at {p : Int} (hF : Fld p) {n : Nat} {room : List (List Int)} (h : PFR p n room) {r : List Int} (hr : RowsOk p n [r]) {c : List Int} (hc : c ∈ room) : (leftR p room r).getD (fpR c) 0 = 0 := by
  obtain ⟨q, rfl, z, hF⟩ := to_q hF
  obtain ⟨bs, pf, e, ok, et⟩ := ((isPF_iff hF).mpr h).left hF hr
  refine (toV_eq0 (q := q) (ok _ List.mem_cons_self).2 _).mp ?_
  have m : toV (q := q) c ∈ bs.map (·.2) := by rw [e]; exact List.mem_map_of_mem hc
  obtain ⟨b, mb, eb⟩ := List.mem_map.mp m
  have fj : fpR c = b.1 := fpR_lead (q := q) (h.1 c hc).2 (by rw [← eb]; exact pf.leads (one_ne (q2 hF)) mb)
  rw [et, fj]
  exact Lin.left_at pf _ mb
theorem noughts_iff {r : List Int} {n : Nat} (h : r.length = n) : r = List.replicate n 0 ↔ ∀ x ∈ r, x = 0 := by
  rw [List.eq_replicate_iff]
  exact ⟨fun z => z.2, fun z => ⟨h, z⟩⟩
theorem left_iff {p : Int} (hF : Fld p) {n : Nat} {room : List (List Int)} (h : PFR p n room) {r : List Int} (hr : RowsOk p n [r]) : decide (leftR p room r = List.replicate n 0) = hasR p n room r := by
  have l := (PFR.left_ok hF h hr _ List.mem_cons_self).1
  have e := PFR.left_has hF h hr
  unfold hasR
  rw [decide_eq_decide, noughts_iff l]
  exact e
end OC
namespace OC
theorem InR.plain {p : Int} (hF : Fld p) {n : Nat} {rs : List (List Int)} (h : RowsOk p n rs) {r : List Int} : InR p (plainR p n rs) r ↔ InR p rs r := ⟨fun hx q z e => by
    subst e
    exact (plainR_mk hF h _).mp (hx q z rfl), fun hx q z e => by
    subst e
    exact (plainR_mk hF h _).mpr (hx q z rfl)⟩
theorem hasR_plain {p : Int} (hF : Fld p) {n : Nat} {rs : List (List Int)} (h : RowsOk p n rs) {r : List Int} (hr : RowsOk p n [r]) : hasR p n (plainR p n rs) r = true ↔ InR p rs r := by
  rw [hasR_in hF (PFR.of_plain hF h).1 hr, InR.plain hF h]
end OC
set_option Elab.async false
set_option linter.all false
set_option maxRecDepth 100000
set_option maxHeartbeats 4000000
/-! rows and lists of them: what laws over rooms share -/
namespace OC
open PySem PySem.Spec PyProof.Rows L2
section
variable {K : PySem.W.Frag} {H : Hp} {bad : Addr → Prop}
theorem RowsAt.dp {a : Addr} {rs : List (List Int)} (h : RowsAt K H a rs) : Dp K H (.ref a) (.tuple (rs.map rowD)) := by
  obtain ⟨ws, h1, h2⟩ := h
  exact .tup h1 h2
end
end OC
set_option Elab.async false
set_option linter.all false
set_option maxRecDepth 100000
set_option maxHeartbeats 4000000
/-! rooms joined and shared -/
namespace OC
open PySem PySem.Spec PyProof.Rows L2 Lin
def joinR (p : Int) (n : Nat) (one other : List (List Int)) : List (List Int) := plainR p n (one ++ other)
def meetR (p : Int) (n : Nat) (one other : List (List Int)) : List (List Int) := acrossR p n (joinR p n (acrossR p n one) (acrossR p n other))
section
variable {p : Int} {n : Nat} {one other : List (List Int)}
theorem join_pf (hF : Fld p) (h1 : RowsOk p n one) (h2 : RowsOk p n other) : PFR p n (joinR p n one other) := PFR.of_plain hF (rowsOk_app h1 h2)
theorem meet_pf (hF : Fld p) : PFR p n (meetR p n one other) := PFR.across hF n _
theorem PFR.ext (hF : Fld p) (h1 : PFR p n one) (h2 : PFR p n other) (a : ∀ r ∈ one, InR p other r) (b : ∀ r ∈ other, InR p one r) : one = other := by
  have := plain_same hF h1.1 h2.1 a b
  rw [h1.2, h2.2] at this
  exact this
theorem meet_mk {q : Nat} [NeZero q] (hF : Fld (q : Int)) (h1 : PFR q n one) (h2 : PFR q n other) (x : Vec q) : Mk q (meetR q n one other) x ↔ Mk q one x ∧ Mk q other x := by
  have i1 := (isPF_iff hF).mpr h1
  have i2 := (isPF_iff hF).mpr h2
  have ja : RowsOk q n (acrossR q n one ++ acrossR q n other) := rowsOk_app (acrossR_pf hF n one).1 (acrossR_pf hF n other).1
  have jp : IsPF q n (joinR q n (acrossR q n one) (acrossR q n other)) := plainR_pf hF ja
  unfold meetR
  rw [acrossR_perp hF jp]
  have e : Mk q (joinR q n (acrossR q n one) (acrossR q n other)) = Mk q (acrossR q n one ++ acrossR q n other) := by
    funext y
    exact propext (plainR_mk hF ja y)
  rw [e, ← perp_across hF i1, ← perp_across hF i2]
  unfold Mk
  rw [List.map_append]
  exact perp_app x
theorem InR.meet (hF : Fld p) (h1 : PFR p n one) (h2 : PFR p n other) (r : List Int) : InR p (meetR p n one other) r ↔ InR p one r ∧ InR p other r := by
  constructor
  · intro h
    exact ⟨fun q z e => by subst e; exact ((meet_mk hF h1 h2 _).mp (h q z rfl)).1, fun q z e => by subst e; exact ((meet_mk hF h1 h2 _).mp (h q z rfl)).2⟩
  · rintro ⟨a, b⟩ q z e
    subst e
    exact (meet_mk hF h1 h2 _).mpr ⟨a q z rfl, b q z rfl⟩
theorem InR.left {ts : List (List Int)} {r : List Int} (h : InR p one r) : InR p (one ++ ts) r := InR.mono (fun x hx => InR.mem (List.mem_append_left _ hx)) h
theorem InR.right {ts : List (List Int)} {r : List Int} (h : InR p ts r) : InR p (one ++ ts) r := InR.mono (fun x hx => InR.mem (List.mem_append_right _ hx)) h
theorem InR.join (hF : Fld p) (h1 : RowsOk p n one) (h2 : RowsOk p n other) {r : List Int} : InR p (joinR p n one other) r ↔ InR p (one ++ other) r := InR.plain hF (rowsOk_app h1 h2)
theorem pf_dim {q : Nat} [NeZero q] (hF : Fld (q : Int)) {room : List (List Int)} (h : PFR q n room) : dim invF n (room.map (toV (q := q))) = room.length := by
  have := plainR_len h.1
  rw [h.2] at this
  exact this.symm
end
theorem PFR.len {p : Int} {n : Nat} {room : List (List Int)} (hF : Fld p) (h : PFR p n room) : room.length ≤ n := by
  have := plainR_lenle hF h.1
  rwa [h.2] at this
end OC
set_option Elab.async false
set_option linter.all false
set_option maxRecDepth 100000
set_option maxHeartbeats 4000000
/-! across: the more a room has, the less -/
set_option Elab.async false
set_option linter.all false
set_option maxRecDepth 100000
set_option maxHeartbeats 4000000
/-! sorted of a list of rows, and of a dict whose keys are rows -/
namespace OC
open PySem PySem.Spec PyProof.Rows L2 SrtO
theorem TAll.perm {H : Hp} {xs ys : List V} (h : ys.Perm xs) : ∀ {gs : List (List Int)}, TAll H xs gs → ∃ hs, TAll H ys hs ∧ hs.Perm gs := by
  induction h with
  | nil => exact fun t => ⟨_, t, .refl _⟩
  | cons x _ ih =>
    intro gs t
    cases t with
    | cons h1 t1 =>
      obtain ⟨hs, a, b⟩ := ih t1
      exact ⟨_, .cons h1 a, .cons _ b⟩
  | swap x y l =>
    intro gs t
    cases t with
    | cons h1 t1 =>
      cases t1 with
      | cons h2 t2 => exact ⟨_, .cons h2 (.cons h1 t2), .swap _ _ _⟩
  | trans _ _ i1 i2 =>
    intro gs t
    obtain ⟨hs, a, b⟩ := i2 t
    obtain ⟨ks, c, d⟩ := i1 a
    exact ⟨ks, c, d.trans b⟩
theorem TAll.mem {H : Hp} : ∀ {xs : List V} {gs : List (List Int)}, TAll H xs gs → ∀ x ∈ xs, ∃ b g, x = .ref b ∧ g ∈ gs ∧ H b = some (.tup (g.map V.int))
  | _, _, .nil, x, hx => (nomatch hx)
  | _, _, .cons (b := b) (g := g) h t, x, hx => by
    rcases List.mem_cons.mp hx with rfl | hx
    · exact ⟨b, g, rfl, List.mem_cons_self, h⟩
    · obtain ⟨b', g', e, m, h'⟩ := t.mem x hx
      exact ⟨b', g', e, List.mem_cons_of_mem _ m, h'⟩
theorem TAll.dp {K : PySem.W.Frag} {H : Hp} : ∀ {vs : List V} {gs : List (List Int)}, TAll H vs gs → DpAll K H vs (gs.map rowD)
  | _, _, .nil => .nil
  | _, _, .cons h t => .cons (row_dp (.inl (.inl h))) t.dp
end OC
set_option Elab.async false
set_option linter.all false
set_option maxRecDepth 100000
set_option maxHeartbeats 4000000
/-! rows of a room by their numbers; worlds alike -/
namespace Lin
end Lin
set_option Elab.async false
set_option linter.all false
set_option maxRecDepth 100000
set_option maxHeartbeats 4000000
/-! rows led by an exchange of places; what rows are worth tells what a row is worth -/
set_option Elab.async false
set_option linter.all false
set_option maxRecDepth 100000
set_option maxHeartbeats 4000000
/-! plain rows in any order: what is left of a row, and one row more -/
namespace Lin
end Lin
set_option Elab.async false
set_option linter.all false
set_option maxRecDepth 100000
set_option maxHeartbeats 4000000
/-! the drawn numbers of the laws over stands: a list of cells, a count, a list of rests -/
namespace OC
open PySem PySem.Spec PyProof.Rows L2
structure Drw (H : Hp) (d c e : Addr) (t : Int) : Prop where
  hd : H d = some (.lst [.ref c, .int t, .ref e])
  hc : ∃ cells rests : List Int, H c = some (.lst (cells.map V.int)) ∧ H e = some (.lst (rests.map V.int)) ∧ cells.length = rests.length ∧ 0 < cells.length ∧ cells.length ≤ 63 ∧ ∀ x ∈ rests, 0 ≤ x
  cd : c ≠ d
  ed : e ≠ d
  ce : c ≠ e
  t0 : 0 ≤ t
section
variable {H H' : Hp} {d c e : Addr} {t : Int}
theorem Drw.same (D : Drw H d c e t) (s : Same H H') : Drw H' d c e t := by
  obtain ⟨hd, ⟨cells, rests, h1, h2, h3⟩, a, b, f, t0⟩ := D
  exact ⟨s _ _ hd, ⟨cells, rests, s _ _ h1, s _ _ h2, h3⟩, a, b, f, t0⟩
/-- one of the three lists -/
def Bd3 (d c e : Addr) : Addr → Prop := fun a => a = d ∨ a = c ∨ a = e
theorem Drw.fresh (D : Drw H d c e t) {p : Addr} (n : H p = none) : ¬ Bd3 d c e p := by
  obtain ⟨hd, ⟨cells, rests, h1, h2, h3⟩, _⟩ := D
  rintro (z | z | z)
  · subst z; rw [hd] at n; cases n
  · subst z; rw [h1] at n; cases n
  · subst z; rw [h2] at n; cases n
theorem Drw.mut (D : Drw H d c e t) {B : Addr} {o : HO} (b : ¬ Bd3 d c e B) : Drw (upd H B o) d c e t := by
  obtain ⟨hd, ⟨cells, rests, h1, h2, h3⟩, x, y, z, t0⟩ := D
  exact ⟨by rw [upd_ne (fun z => b (.inl z.symm))]; exact hd, ⟨cells, rests, by rw [upd_ne (fun z => b (.inr (.inl z.symm)))]; exact h1, by rw [upd_ne (fun z => b (.inr (.inr z.symm)))]; exact h2, h3⟩, x, y, z, t0⟩
theorem Drw.tup {K : PySem.W.Frag} (D : Drw H d c e t) (k : Kept d e H H') {a : Addr} {xs : List V} (h : SqT K H a xs) : SqT K H' a xs := by
  obtain ⟨hd, ⟨cells, rests, h1, h2, h3⟩, _⟩ := D
  rcases h with (h | ⟨o, h⟩) | h
  · exact .inl (.inl (k _ _ h (fun z => by subst z; rw [hd] at h; cases h) (fun z => by subst z; rw [h2] at h; cases h)))
  · exact .inl (.inr ⟨o, k _ _ h (fun z => by subst z; rw [hd] at h; cases h) (fun z => by subst z; rw [h2] at h; cases h)⟩)
  · exact .inr h
theorem Drw.tk (D : Drw H d c e t) (k : Kept d e H H') : Tk H H' := fun _ _ _ h => D.tup k h
theorem Drw.rows {K : PySem.W.Frag} (D : Drw H d c e t) (k : Kept d e H H') {a : Addr} {rs : List (List Int)} (h : RowsAt K H a rs) : RowsAt K H' a rs := by
  obtain ⟨ws, h1, h2⟩ := h
  exact ⟨ws, D.tup k h1, dpAll_tk (D.tk k) _ _ (noL_rows rs) h2⟩
theorem Drw.lst (k : Kept d e H H') {a : Addr} {o : HO} (b : ¬ Bd3 d c e a) (h : H a = some o) : H' a = some o := k _ _ h (fun z => b (.inl z)) (fun z => b (.inr (.inr z)))
end
end OC
set_option Elab.async false
set_option linter.all false
set_option maxRecDepth 100000
set_option maxHeartbeats 4000000
namespace OC
open PySem PySem.Spec PyProof.Rows L2
/-- a name: one to eight small letters -/
def NameOk (s : Str) : Prop := 1 ≤ s.length ∧ s.length ≤ 8 ∧ ∀ c ∈ s.cps.toList, 97 ≤ c ∧ c ≤ 122
def nameL (st : List Nat) (k c : Nat) : List Nat := st.take k ++ ([c] ++ st.drop k)
theorem nameL_inj {st : List Nat} {k c c' : Nat} (h : nameL st k c = nameL st k c') : c = c' := by
  unfold nameL at h
  have := List.append_cancel_left h
  exact (List.cons.inj this).1
theorem nameL_len (st : List Nat) (k c : Nat) : (nameL st k c).length = st.length + 1 := by
  unfold nameL
  rw [List.length_append, List.length_append, List.length_take, List.length_drop]
  simp only [List.length_cons, List.length_nil]
  omega
theorem nameL_ok {st : List Nat} {k c : Nat} (h : ∀ x ∈ st, 97 ≤ x ∧ x ≤ 122) (hl : st.length ≤ 7) (hc : 97 ≤ c ∧ c ≤ 122) : NameOk (SX.S (nameL st k c)) := by
  have e := SX.S_len (nameL st k c)
  rw [nameL_len] at e
  refine ⟨by omega, by omega, fun x hx => ?_⟩
  have hx : x ∈ nameL st k c := hx
  unfold nameL at hx
  rcases List.mem_append.mp hx with hx | hx
  · exact h x (List.mem_of_mem_take hx)
  · rcases List.mem_append.mp hx with hx | hx
    · rw [List.mem_singleton.mp hx]
      exact hc
    · exact h x (List.mem_of_mem_drop hx)
theorem step_inj {f s : Int} {i j : Nat} (hs : s = 1 ∨ s = 3 ∨ s = 5 ∨ s = 7 ∨ s = 9 ∨ s = 11 ∨ s = 15 ∨ s = 17) (hi : i < 26) (hj : j < 26) (h : (f + s * i) % 26 = (f + s * j) % 26) : i = j := by
  rcases hs with rfl | rfl | rfl | rfl | rfl | rfl | rfl | rfl
  all_goals omega
def lettersS : Str := "abcdefghijklmnopqrstuvwxyz"
theorem letters_at {i : Int} (h0 : 0 ≤ i) (h1 : i < 26) : atI lettersS.cps.toList i = some (97 + i.toNat) := by
  have a : ∀ k : Fin 26, atI lettersS.cps.toList (k.val : Int) = some (97 + k.val) := by decide +kernel
  have := a ⟨i.toNat, by omega⟩
  rw [show ((⟨i.toNat, by omega⟩ : Fin 26).val : Int) = i from Int.toNat_of_nonneg h0] at this
  exact this
theorem join_ones : ∀ cs : List Nat, TL.joinL [] (cs.map fun c => [c]) = cs := by
  intro cs
  induction cs with
  | nil => rfl
  | cons c cs ih =>
    cases cs with
    | nil => rfl
    | cons d cs =>
      have : TL.joinL [] ((c :: d :: cs).map fun c => [c]) = [c] ++ ([] ++ TL.joinL [] ((d :: cs).map fun c => [c])) := rfl
      rw [this, ih]
      rfl
theorem ones_sum : ∀ cs : List Nat, ((cs.map fun c => SX.S [c]).map (·.length)).sum = cs.length := by
  intro cs
  induction cs with
  | nil => rfl
  | cons c cs ih =>
    rw [List.map_cons, List.map_cons, List.sum_cons, ih, SX.S_len, List.length_cons]
    simp only [List.length_cons, List.length_nil]
    omega
theorem join_cs (cs : List Nat) : Txt.join (Str.ofString "") (cs.map fun c => SX.S [c]) = SX.S cs := by
  have e := SX.join_S [] (cs.map fun c => [c])
  rw [List.map_map, join_ones] at e
  exact e
def nameAt (st : List Nat) (cut f s : Int) (k : Nat) : Str := SX.S (nameL st cut.toNat (97 + ((f + s * k) % 26).toNat))
theorem names_nodup {st : List Nat} {cut f s : Int} (hs : s = 1 ∨ s = 3 ∨ s = 5 ∨ s = 7 ∨ s = 9 ∨ s = 11 ∨ s = 15 ∨ s = 17) {m : Nat} (hm : m ≤ 26) : ((List.range m).map (nameAt st cut f s)).Nodup := by
  refine List.pairwise_map.mpr ((List.nodup_range (n := m)).imp_of_mem fun {i j} hi hj hne h => hne ?_)
  have hi := List.mem_range.mp hi
  have hj := List.mem_range.mp hj
  have h := nameL_inj (SX.S_inj h)
  refine step_inj (f := f) hs (by omega) (by omega) ?_
  have := Int.emod_nonneg (f + s * i) (b := 26) (by decide)
  have := Int.emod_nonneg (f + s * j) (b := 26) (by decide)
  omega
theorem nameAt_ok {st : List Nat} {cut f s : Int} {k : Nat} (h : ∀ x ∈ st, 97 ≤ x ∧ x ≤ 122) (hl : st.length ≤ 7) : NameOk (nameAt st cut f s k) := by
  refine nameL_ok h hl ?_
  have := Int.emod_nonneg (f + s * k) (b := 26) (by decide)
  have := Int.emod_lt_of_pos (f + s * k) (b := 26) (by decide)
  omega
end OC
set_option Elab.async false
set_option linter.all false
set_option maxRecDepth 100000
set_option maxHeartbeats 4000000
namespace OC
open PySem PySem.Spec PyProof.Rows L2
/-- a statement that is never reached -/
theorem ps_dead {X : Cx} {st : Stmt} : PS X st (fun _ _ _ => False) := ⟨fun _ _ _ _ _ _ h => h.elim⟩
def handD (h : Str × List (List Int)) : PyData := .tuple [.str h.1, .tuple (h.2.map rowD)]
/-- a stand as data -/
def standD (p : Int) (n : Nat) (kn : List (List Int)) (hs : List (Str × List (List Int))) : PyData := .tuple [.int p, .int n, .tuple (kn.map rowD), .tuple (hs.map handD)]
theorem noL_hands : ∀ hs : List (Str × List (List Int)), noLAll (hs.map handD) = true
  | [] => rfl
  | h :: hs => by
    have a : noL (handD h) = true := by
      unfold handD
      simp only [noL, noLAll, noL_rows, Bool.and_true]
    rw [List.map_cons]
    simp only [noLAll, a, noL_hands hs, Bool.and_true]
theorem noL_stand (p : Int) (n : Nat) (kn : List (List Int)) (hs : List (Str × List (List Int))) : noL (standD p n kn hs) = true := by
  unfold standD
  simp only [noL, noLAll, noL_rows, noL_hands, Bool.and_true]
theorem dp_stand {K : PySem.W.Frag} {H : Hp} {v : V} {p : Int} {n : Nat} {kn : List (List Int)} {hs : List (Str × List (List Int))} (h : Dp K H v (standD p n kn hs)) :
    ∃ (a k g : Addr) (wg : List V), v = .ref a ∧ SqT K H a [.int p, .int n, .ref k, .ref g] ∧ RowsAt K H k kn ∧ SqT K H g wg ∧ DpAll K H wg (hs.map handD) := by
  unfold standD at h
  cases h with
  | tup h1 h2 =>
    cases h2 with
    | cons a1 h2 =>
      cases a1
      cases h2 with
      | cons a2 h2 =>
        cases a2
        cases h2 with
        | cons a3 h2 =>
          cases h2 with
          | cons a4 h2 =>
            cases h2
            cases a3 with
            | tup q1 q2 =>
              cases a4 with
              | tup q3 q4 => exact ⟨_, _, _, _, rfl, h1, ⟨_, q1, q2⟩, q3, q4⟩
theorem dp_hand {K : PySem.W.Frag} {H : Hp} {v : V} {h : Str × List (List Int)} (d : Dp K H v (handD h)) : ∃ (b r : Addr), v = .ref b ∧ SqT K H b [.str h.1, .ref r] ∧ RowsAt K H r h.2 := by
  unfold handD at d
  cases d with
  | tup h1 h2 =>
    cases h2 with
    | cons a1 h2 =>
      cases a1
      cases h2 with
      | cons a2 h2 =>
        cases h2
        cases a2 with
        | tup q1 q2 => exact ⟨_, _, rfl, h1, ⟨_, q1, q2⟩⟩
theorem dpAll_hand {K : PySem.W.Frag} {H : Hp} {wg : List V} {hs : List (Str × List (List Int))} {i : Nat} {v : V} (h : DpAll K H wg (hs.map handD)) (e : wg[i]? = some v) : ∃ (b r : Addr) (x : Str × List (List Int)), v = .ref b ∧ hs[i]? = some x ∧ x ∈ hs ∧ SqT K H b [.str x.1, .ref r] ∧ RowsAt K H r x.2 := by
  obtain ⟨d, g, _, dp⟩ := dpAll_get h e
  rw [List.getElem?_map] at g
  obtain ⟨x, hx, rfl⟩ := Option.map_eq_some_iff.mp g
  obtain ⟨b, r, e1, e2, e3⟩ := dp_hand dp
  exact ⟨b, r, x, e1, hx, List.mem_of_getElem? hx, e2, e3⟩
/-- the rows of those hands whose names are asked for -/
def selR (ns : List Str) (hs : List (Str × List (List Int))) : List (List Int) := hs.flatMap fun h => if h.1 ∈ ns then h.2 else []
theorem sel_take {ns : List Str} {hs : List (Str × List (List Int))} {i : Nat} {x : Str × List (List Int)} (h : hs[i]? = some x) : selR ns (hs.take (i + 1)) = selR ns (hs.take i) ++ (if x.1 ∈ ns then x.2 else []) := by
  unfold selR
  rw [List.take_add_one, h, List.flatMap_append]
  congr 1
  simp only [Option.toList, List.flatMap_cons, List.flatMap_nil, List.append_nil]
theorem sel_ok {p : Int} {n : Nat} {ns : List Str} {hs : List (Str × List (List Int))} (h : ∀ x ∈ hs, RowsOk p n x.2) : RowsOk p n (selR ns hs) := by
  intro r hr
  obtain ⟨x, hx, hr⟩ := List.mem_flatMap.mp hr
  by_cases hn : x.1 ∈ ns
  · rw [if_pos hn] at hr
    exact h x hx r hr
  · rw [if_neg hn] at hr
    cases hr
theorem sel_len {ns : List Str} {B : Nat} : ∀ {hs : List (Str × List (List Int))}, (∀ x ∈ hs, x.2.length ≤ B) → (selR ns hs).length ≤ B * hs.length
  | [], _ => Nat.zero_le _
  | x :: hs, h => by
    have a := sel_len (ns := ns) (hs := hs) (fun y hy => h y (List.mem_cons_of_mem _ hy))
    have b := h x List.mem_cons_self
    have e : selR ns (x :: hs) = (if x.1 ∈ ns then x.2 else []) ++ selR ns hs := rfl
    rw [e, List.length_append, List.length_cons, Nat.mul_add, Nat.mul_one]
    by_cases hn : x.1 ∈ ns
    · rw [if_pos hn]
      omega
    · rw [if_neg hn, List.length_nil]
      omega
theorem flat_strs : ∀ ns : List Str, (ns.map V.str).all flatV = true
  | [] => rfl
  | x :: ns => by
    rw [List.map_cons, List.all_cons, flat_strs ns]
    rfl
theorem in_strs (x : Str) (ns : List Str) : inV (.str x) (ns.map V.str) = decide (x ∈ ns) := by
  unfold inV
  rw [List.any_map]
  by_cases h : x ∈ ns
  · rw [decide_eq_true h]
    refine List.any_eq_true.mpr ⟨x, h, ?_⟩
    show (x == x) = true
    exact beq_self_eq_true x
  · rw [decide_eq_false h]
    refine List.any_eq_false.mpr fun y hy e => h ?_
    have e : (y == x) = true := e
    rw [← eq_of_beq e]
    exact hy
end OC
set_option Elab.async false
set_option linter.all false
set_option maxRecDepth 100000
set_option maxHeartbeats 4000000
set_option Elab.async false
set_option linter.all false
set_option maxRecDepth 100000
set_option maxHeartbeats 4000000
namespace OC
open PySem PySem.Spec PyProof.Rows L2
theorem zero_iff {n : Nat} {l : List Int} (h : l.length = n) : (∀ y ∈ l, y = 0) ↔ l = List.replicate n 0 := by
  rw [List.eq_replicate_iff]
  exact ⟨fun z => ⟨h, z⟩, fun z => z.2⟩
theorem PFR.rows {p : Int} {n : Nat} {room : List (List Int)} (h : PFR p n room) : RowsOk p n room := fun r hr => h.1 r hr
/-- what is left of a row is nothing if the room holds it -/
theorem left_zero {p : Int} (hF : Fld p) {n : Nat} {room : List (List Int)} (h : PFR p n room) {r : List Int} (hr : RowsOk p n [r]) (hl : (leftR p room r).length = n) : (∀ y ∈ leftR p room r, y = 0) ↔ InR p room r := by
  rw [zero_iff hl, ← hasR_in hF h.rows hr, ← left_iff hF h hr]
  exact ⟨fun e => decide_eq_true e, fun e => of_decide_eq_true e⟩
end OC
set_option Elab.async false
set_option linter.all false
set_option maxRecDepth 100000
set_option maxHeartbeats 4000000
set_option Elab.async false
set_option linter.all false
set_option maxRecDepth 100000
set_option maxHeartbeats 4000000
namespace OC
open PySem PySem.Spec PyProof.Rows L2
/-- a drawn stand -/
structure Stand5 (p : Int) (n : Nat) (kn : List (List Int)) (hs : List (Str × List (List Int))) : Prop where
  fld : Fld p
  p1 : p ≤ 1000
  n1 : 1 ≤ n
  n8 : n ≤ 8
  pk : PFR p n kn
  ph : ∀ h ∈ hs, PFR p n h.2
  inn : ∀ h ∈ hs, ∀ r ∈ kn, InR p h.2 r
  few : 2 ≤ hs.length
  many : hs.length ≤ 9
  srt : sortedS (hs.map Prod.fst) = true
  nd : (hs.map Prod.fst).Nodup
  nm : ∀ x ∈ hs.map Prod.fst, NameOk x
end OC
set_option Elab.async false
set_option linter.all false
set_option maxRecDepth 100000
set_option maxHeartbeats 4000000
/-! what repr asks, with bounds; comprehensions of things with old lists in them -/
namespace OC
open PySem PySem.Spec PyProof.Rows L2
structure FitZ (B k : Nat) (d : PyData) : Prop where
  len : d.shown.length ≤ B
  sh : d.showable = true
  dp : d.depth ≤ k
theorem FitZ.mono {B B' k k' : Nat} {d : PyData} (h : FitZ B k d) (hB : B ≤ B') (hk : k ≤ k') : FitZ B' k' d := ⟨Nat.le_trans h.len hB, h.sh, Nat.le_trans h.dp hk⟩
theorem FitZ.fit {B k : Nat} {d : PyData} (h : FitZ B k d) (hB : B ≤ 10000000) (hk : k ≤ 55) : FitS d := ⟨Nat.le_trans h.len hB, h.sh, Nat.le_trans h.dp hk⟩
theorem FitB.z {B k : Nat} {d : PyData} (h : FitB B k d) : FitZ B k d := ⟨h.len, h.sh, h.dp⟩
theorem fitz_int {i : Int} (h0 : -1000000 ≤ i) (h1 : i ≤ 1000000) : FitZ 50 0 (.int i) := (fit_int (Nat.lt_of_le_of_lt (show i.natAbs ≤ 1000000 by omega) (by decide))).z
theorem fitz_tuple {B k n : Nat} {ds : List PyData} (hl : ds.length ≤ n) (h : ∀ d ∈ ds, FitZ B k d) : FitZ (n * (B + 2) + 3) (k + 1) (.tuple ds) := by
  refine ⟨?_, ?_, ?_⟩
  · simp only [PyData.shown]
    refine Nat.le_trans (tupleText_len_le _) ?_
    rw [shownAll_map, List.length_map]
    have h1 := sum_le (B := B) (ts := ds.map PyData.shown) fun t ht => by
      obtain ⟨d, m, rfl⟩ := List.mem_map.mp ht
      exact (h d m).len
    rw [List.length_map] at h1
    have h2 : ds.length * (B + 2) ≤ n * (B + 2) := Nat.mul_le_mul_right _ hl
    rw [Nat.mul_add] at h2
    omega
  · simp only [PyData.showable]
    exact showAll_of fun d m => (h d m).sh
  · simp only [PyData.depth]
    have := depthAll_of fun d m => (h d m).dp
    omega
theorem fitz_name {x : Str} (h : NameOk x) : FitZ 82 0 (.str x) := by
  refine ⟨?_, by simp [PyData.showable], by simp [PyData.depth]⟩
  simp only [PyData.shown]
  have := PySem.StrLaws.reprText_len x fun c hc => Nat.lt_of_le_of_lt (h.2.2 c hc).2 (by decide)
  have := h.2.1
  omega
/-- a thing within a thing -/
structure OkE (d : PyData) : Prop where
  l : lenOk d
  f : FitZ 600 2 d
theorem okE_ints {r : List Int} (h : ∀ x ∈ r, -1000000 ≤ x ∧ x ≤ 1000000) (hl : r.length ≤ 10) : OkE (rowD r) :=
  ⟨by show (r.map PyData.int).length ≤ 1000; rw [List.length_map]; omega, (fitz_tuple (n := 10) (by rw [List.length_map]; exact hl) fun d m => by
    obtain ⟨x, mx, rfl⟩ := List.mem_map.mp m
    exact fitz_int (h x mx).1 (h x mx).2).mono (by decide) (by decide)⟩
theorem fitz_bool (b : Bool) : FitZ 50 0 (.bool b) := by cases b <;> exact ⟨by decide +kernel, by decide +kernel, by decide +kernel⟩
theorem okE_row {p : Int} {n : Nat} {r : List Int} (hp : p ≤ 1000) (hn : n ≤ 8) (h : RowsOk p n [r]) : OkE (rowD r) := by
  obtain ⟨h1, h2⟩ := h r List.mem_cons_self
  exact okE_ints (fun x hx => by have := h2 x hx; omega) (by omega)
theorem okE_rows {p : Int} {n : Nat} {rs : List (List Int)} (hp : p ≤ 1000) (hn : n ≤ 8) (h : RowsOk p n rs) : ∀ d ∈ rs.map rowD, OkE d := fun d m => by
  obtain ⟨r, mr, rfl⟩ := List.mem_map.mp m
  exact okE_row hp hn (rowsOk_one (h r mr))
theorem fitz_rows {p : Int} {n : Nat} {rs : List (List Int)} (hp : p ≤ 1000) (hn : n ≤ 8) (h : RowsOk p n rs) (hl : rs.length ≤ 8) : FitZ 4819 3 (.tuple (rs.map rowD)) := fitz_tuple (n := 8) (by rw [List.length_map]; exact hl) fun d m => (okE_rows hp hn h d m).f
theorem fitz_stand {p : Int} {n : Nat} {kn : List (List Int)} {hs : List (Str × List (List Int))} (S : Stand5 p n kn hs) : FitZ 400000 6 (standD p n kn hs) := by
  have n8 := S.n8
  have p1 := S.p1
  have p2 := S.fld.1
  have lk := PFR.len S.fld S.pk
  have hands : FitZ 99990 5 (.tuple (hs.map handD)) := by
    refine (fitz_tuple (B := 9645) (k := 4) (n := 9) (by rw [List.length_map]; exact S.many) fun d m => ?_).mono (by decide) (by decide)
    obtain ⟨h, mh, rfl⟩ := List.mem_map.mp m
    unfold handD
    refine (fitz_tuple (B := 4819) (k := 3) (n := 2) (Nat.le_refl _) fun d m => ?_).mono (by decide) (by decide)
    have lh := PFR.len S.fld (S.ph h mh)
    simp only [List.mem_cons, List.not_mem_nil, or_false] at m
    rcases m with rfl | rfl
    · exact (fitz_name (S.nm _ (List.mem_map_of_mem mh))).mono (by decide) (by decide)
    · exact fitz_rows p1 n8 (S.ph h mh).1 (by omega)
  unfold standD
  refine (fitz_tuple (B := 99990) (k := 5) (n := 4) (Nat.le_refl _) fun d m => ?_).mono (by decide) (by decide)
  simp only [List.mem_cons, List.not_mem_nil, or_false] at m
  rcases m with rfl | rfl | rfl | rfl
  · exact (fitz_int (by omega) (by omega)).mono (by decide) (by decide)
  · exact (fitz_int (by omega) (by omega)).mono (by decide) (by decide)
  · exact (fitz_rows p1 n8 S.pk.1 (by omega)).mono (by decide) (by decide)
  · exact hands
theorem Drw.some {d c e : Addr} {t : Int} {H : Hp} (D : Drw H d c e t) {a : Addr} (b : Bd3 d c e a) : H a ≠ none := by
  obtain ⟨cells, rests, h1, h2, _⟩ := D.hc
  rcases b with z | z | z
  · subst z; rw [D.hd]; exact fun z => nomatch z
  · subst z; rw [h1]; exact fun z => nomatch z
  · subst z; rw [h2]; exact fun z => nomatch z
mutual
/-- data without lists, as a thing -/
theorem rep_noL {K : PySem.W.Frag} {H : Hp} {bad : Addr → Prop} : ∀ (d : PyData) (v : V), noL d = true → Dp K H v d → Rep K H bad v d
  | .none, _, _, h => by cases h; exact .non
  | .bool b, _, _, h => by cases h; exact .bl b
  | .int i, _, _, h => by cases h; exact .int i
  | .str x, _, _, h => by cases h; exact .str x
  | .list ds, _, n, _ => by simp [noL] at n
  | .dict ds, _, _, h => by cases h
  | .tuple ds, _, n, h => by
    cases h with
    | tup h1 h2 => exact .tup h1 (repAll_noL ds _ (by simpa [noL] using n) h2)
theorem repAll_noL {K : PySem.W.Frag} {H : Hp} {bad : Addr → Prop} : ∀ (ds : List PyData) (vs : List V), noLAll ds = true → DpAll K H vs ds → RepAll K H bad vs ds
  | [], _, _, h => by cases h; exact .nil
  | d :: ds, _, n, h => by
    have n' : noL d = true ∧ noLAll ds = true := by simpa [noLAll] using n
    cases h with
    | cons h1 h2 => exact .cons (rep_noL d _ n'.1 h1) (repAll_noL ds _ n'.2 h2)
end
end OC
set_option Elab.async false
set_option linter.all false
set_option maxRecDepth 100000
set_option maxHeartbeats 2000000
/-! errors of classes of one's own, made without an argument; defs that may raise, by name -/
namespace OC
open PySem PySem.Spec PyProof.Rows L2
/-- as Ok, for a def that may raise -/
structure OkX (P : Program) (w : World) (K : PySem.W.Frag) (mg : Str → Option Value) (base : Heap) (k : Nat) (x : Str) (ps : List Str) (sp : Sp) : Prop where
  ex : ∃ (f : Addr) (fd : FuncData), FnOk P w K mg base (L2.CX P w) k f fd ps sp ∧ mg x = some (.ref f) ∧ PySem.W.keepIn K (.ref f) = true ∧ Binds K fd ps []
section
variable {P : Program} {w : World} {K : PySem.W.Frag} {mg : Str → Option Value} {base : Heap}
theorem OkX.mono {x : Str} {ps : List Str} {j k : Nat} {sp : Sp} (O : OkX P w K mg base j x ps sp) (h : j ≤ k) : OkX P w K mg base k x ps sp := by
  obtain ⟨f, fd, F, r⟩ := O.ex
  exact ⟨f, fd, F.mono h, r⟩
end
end OC
set_option Elab.async false
set_option linter.all false
set_option maxRecDepth 100000
set_option maxHeartbeats 2000000
/-! zip of a list and a tuple -/
namespace OC
open PySem PySem.Spec PyProof.Rows L2
/-- the list at a and the tuple at b as they stand at each turn, the items in new pairs -/
def ItzM (K : PySem.W.Frag) (a b : Addr) : It :=
  ⟨fun i H => ∃ (xs ys : List V) (x y : V), SqL K H a xs ∧ SqT K H b ys ∧ xs[i]? = some x ∧ ys[i]? = some y,
    fun i H v H' => ∃ T x y, v = .ref T ∧ H T = none ∧ H' = upd H T (.tup [x, y]) ∧ (∀ xs, SqL K H a xs → xs[i]? = some x) ∧ ∀ ys, SqT K H b ys → ys[i]? = some y,
    fun i H => ∃ xs ys : List V, SqL K H a xs ∧ SqT K H b ys ∧ i ≤ xs.length ∧ i ≤ ys.length ∧ (i = xs.length ∨ i = ys.length)⟩
theorem sep_of {z TI TO i1 i2 l1 l2 : Addr} (D : ZipApart z TI TO i1 i2 l1 l2) : ZipSep2 z TI TO i1 i2 [i1, l1] [i2, l2] where
  TIz := D.TIz
  TOz := D.TOz
  TITO := D.TITO
  TIi1 := D.TIi1
  mem1 := by simp
  zf1 := by simp; exact ⟨Ne.symm D.i1z, Ne.symm D.l1z⟩
  Tf1 := by simp; exact ⟨D.TOi1, Ne.symm D.l1TO⟩
  TIi2 := D.TIi2
  mem2 := by simp
  zf2 := by simp; exact ⟨Ne.symm D.i2z, Ne.symm D.l2z⟩
  Tf2 := by simp; exact ⟨D.TOi2, Ne.symm D.l2TO⟩
  sep1_2 := by simp; exact ⟨D.i12, Ne.symm D.l2i1⟩
  sep2_1 := by simp; exact ⟨Ne.symm D.i12, Ne.symm D.l1i2⟩
theorem turn_zipM {P : Program} {w : World} {K : PySem.W.Frag} {elts : List Expr} {kk : Nat} {tpos : Pos} {a b z TI TO i1 i2 : Addr} (D : ZipApart z TI TO i1 i2 a b) :
    Turn P w K (.Tuple elts kk tpos) (ItzM K a b) [z, TI, TO, i1, i2] z (fun i h => IsZip h z TI TO .none ∧ IsTupOf2 h TI (.ref i1) (.ref i2) ∧ (∃ x y, IsTupOf2 h TO x y) ∧ h.IsListIter i1 a i ∧ h.IsTupleIter i2 b i) where
  mem := by simp
  obj := fun i h st c hc => by
    obtain ⟨hz, hTI, ⟨x, y, hTO⟩, ⟨o1, e1, _, d1⟩, ⟨o2, e2, _, d2⟩⟩ := st
    have e' : c = z ∨ c = TI ∨ c = TO ∨ c = i1 ∨ c = i2 := by simpa using hc
    rcases e' with q | q | q | q | q
    · rw [q]; exact ⟨_, hz, fun v q => nomatch q⟩
    · rw [q]; exact ⟨_, hTI, fun v q => nomatch q⟩
    · rw [q]; exact ⟨_, hTO, fun v q => nomatch q⟩
    · rw [q]; exact ⟨o1, e1, fun v q => by rw [d1] at q; cases q⟩
    · rw [q]; exact ⟨o2, e2, fun v q => by rw [d2] at q; cases q⟩
  keep := fun i h h' st k => by
    obtain ⟨hz, hTI, ⟨x, y, hTO⟩, h1, h2⟩ := st
    exact ⟨k z (by simp) _ hz, k TI (by simp) _ hTI, ⟨x, y, k TO (by simp) _ hTO⟩, h1.at fun o q => k i1 (by simp) o q, h2.at fun o q => k i2 (by simp) o q⟩
  item := by
    intro X hP hw hK hc i pins s σ H E I hf st hg
    subst hP hw hK
    obtain ⟨hz, hTI, ⟨x0, y0, hTO⟩, h1, h2⟩ := st
    obtain ⟨xs, ys, x, y, hqx, hqy, hx, hy⟩ := hg
    obtain ⟨its, rv, p, _⟩ := I.list hqx
    obtain ⟨its2, rv2, p2, _⟩ := I.tuple hqy
    obtain ⟨u, hu, ru⟩ := rv.get hx
    obtain ⟨u2, hu2, ru2⟩ := rv2.get hy
    have hzl : z < s.heap.objs.size := Heap.lt_size hz
    have hh : X.A.in1.handled = none := I.ok.hd hc
    refine wpAny_pyNext_zipD2_item (sep_of D) (Draws.list hh i1 a D.l1i1 its.toArray) (Draws.tuple hh i2 b D.l2i2 its2.toArray) hz hTI hTO ⟨h1, p.isList⟩ ⟨h2, p2⟩ ?_ ?_ fun x1 x2 h' tk y1 y2 z' TO' st1' st2' hT hsz hk => ?_
    · have := (List.getElem?_eq_some_iff.mp hu).1
      simpa using this
    · have := (List.getElem?_eq_some_iff.mp hu2).1
      simpa using this
    have e1 : x1 = u := by
      have : its[i]? = some x1 := by simpa using y1
      rw [hu] at this
      exact (Option.some.inj this).symm
    have e2 : x2 = u2 := by
      have : its2[i]? = some x2 := by simpa using y2
      rw [hu2] at this
      exact (Option.some.inj this).symm
    subst e1 e2
    refine ⟨_, rfl, wpAny_letOwnedTupleGo_zip (s := { s with heap := h', toks := tk }) z' fun h'' z'' sb => ?_⟩
    have hT2 : h''.get? s.heap.objs.size = some { cls := .type "tuple", data := .seq #[x1, x2] } := (sb.2 _ (Nat.ne_of_gt hzl)).trans hT
    have new : ObjOk X.prog X.w (upd H s.heap.objs.size (.tup [x, y])) h'' s.heap.objs.size (.tup [x, y]) :=
      ⟨by show 2 ≤ sizeLine; decide, [x1, x2], .cons ru (.cons ru2 .nil), ⟨_, hT2, rfl, _, rfl⟩⟩
    have I1 : Inv X pins σ (upd H s.heap.objs.size (.tup [x, y])) { s with heap := h'', toks := tk } :=
      I.turnedNew (t' := tk) (ch := [z, TI, TO, i1, i2]) (fun c o hb q => (sb.2 c (fun q' => hb (by simp [q']))).trans (hk c o (fun q' => hb (by simp [q'])) (fun q' => hb (by simp [q'])) (fun q' => hb (by simp [q'])) (fun q' => hb (by simp [q'])) q)) hf (Nat.le_refl _) new
    refine ⟨.ref s.heap.objs.size, _, I1, rfl, ⟨_, x, y, rfl, I.hok.fresh (Nat.le_refl _), rfl, fun l hl => by rw [I.list_inj hl hqx]; exact hx, fun l hl => by rw [I.tuple_inj hl hqy]; exact hy⟩, ⟨z'', ?_, ⟨x1, x2, ?_⟩, ?_, ?_⟩, fun c hcm => ?_⟩
    · exact (sb.2 _ D.TIz).trans (hk _ _ D.TIz D.TITO D.TIi1 D.TIi2 hTI)
    · exact (sb.2 _ D.TOz).trans TO'
    · exact st1'.1.at fun o q => (sb.2 _ D.i1z).trans q
    · exact st2'.1.at fun o q => (sb.2 _ D.i2z).trans q
    · have hlt : c < s.heap.objs.size := by
        have e' : c = z ∨ c = TI ∨ c = TO ∨ c = i1 ∨ c = i2 := by simpa using hcm
        rcases e' with q | q | q | q | q
        · rw [q]; exact hzl
        · rw [q]; exact Heap.lt_size hTI
        · rw [q]; exact Heap.lt_size hTO
        · rw [q]; obtain ⟨_, e1, _⟩ := h1; exact Heap.lt_size e1
        · rw [q]; obtain ⟨_, e2, _⟩ := h2; exact Heap.lt_size e2
      rw [upd_ne (Nat.ne_of_lt hlt)]
      exact (hf c hcm).1
  done := by
    intro X hP hw hK hc i pins s σ H E I hf st hg
    subst hP hw hK
    obtain ⟨hz, hTI, ⟨x0, y0, hTO⟩, h1, h2⟩ := st
    obtain ⟨xs, ys, hqx, hqy, le1, le2, hend⟩ := hg
    obtain ⟨its, rv, p, _⟩ := I.list hqx
    obtain ⟨its2, rv2, p2, _⟩ := I.tuple hqy
    have l1 := rv.length
    have l2 := rv2.length
    have hh : X.A.in1.handled = none := I.ok.hd hc
    have sz1 : its.toArray.size = its.length := by simp
    have sz2 : its2.toArray.size = its2.length := by simp
    exact wpAny_pyNext_zipD2_end (sep_of D) (Draws.list hh i1 a D.l1i1 its.toArray) (Draws.tuple hh i2 b D.l2i2 its2.toArray) hz hTI hTO ⟨h1, p.isList⟩ ⟨h2, p2⟩ (by omega) (by omega) (by omega) fun h' tk hk => ⟨rfl, I.turnedL (t' := tk) (ch := [z, TI, TO, i1, i2]) (fun c o hb q =>
      hk c o (fun q' => hb (by simp [q'])) (fun q' => hb (by simp [q'])) (fun q' => hb (by simp [q'])) (fun q' => hb (by simp [q'])) q) hf⟩
  self := fun A i s Q E st h => wpAny_pyIter_zip st.1 h
/-- zip(xs, ys): two tuples, or a list and a tuple -/
def iZipB (K : PySem.W.Frag) (ta : TA) : TI := fun σ H R => ta σ H fun vs H1 => ∃ a b xs ys, vs = [.ref a, .ref b] ∧ SqT K H1 b ys ∧ ((SqT K H1 a xs ∧ R (RZ.ItzT K a b) H1) ∨ (SqL K H1 a xs ∧ R (ItzM K a b) H1))
theorem pi_zipB {X : Cx} {e e2 : Expr} {ta : TA} {p pos tpos : Pos} {elts : List Expr} {kk : Nat} (hg : Gl X "zip") (hm : X.mg "zip" = none) (ha : PA X [e, e2] ta)
    (hs : starEach [e, e2] X.env = (false, eval e X.env) :: starEach [e2] X.env := by rfl) (hpl : (backTo pos (starEach [e2] X.env)).any (·.1) = false := by rfl) :
    PI X (.Tuple elts kk tpos) (.Call (.Name "zip" p) [e, e2] [] pos) (iZipB X.K ta) := by
  refine ⟨fun pins s σ H R I h => ?_⟩
  refine Call_ (ld_blt I hg hm PyProof.Rows.boot_zip (PyProof.Rows.callWith_type1 (thn (ha.run pos pins s σ H _ I h) fun us s1 ⟨vs, H1, I1, r1, q1⟩ => ?_) hs hpl))
  obtain ⟨a, b, xs, ys, ex, hqy, q⟩ := q1
  subst ex
  cases r1 with
  | cons r rr =>
    cases rr with
    | cons r' rr =>
      cases rr
      cases r
      cases r'
      have fresh5 : ∀ c, c ∈ [s1.heap.objs.size + 4, s1.heap.objs.size + 2, s1.heap.objs.size + 3, s1.heap.objs.size, s1.heap.objs.size + 1] → FpOk X pins H1 c := fun c hcm => by
        have hle : s1.heap.objs.size ≤ c := by
          have e' : c = s1.heap.objs.size + 4 ∨ c = s1.heap.objs.size + 2 ∨ c = s1.heap.objs.size + 3 ∨ c = s1.heap.objs.size ∨ c = s1.heap.objs.size + 1 := by simpa using hcm
          rcases e' with z | z | z | z | z
          · rw [z]; exact Nat.le_add_right _ _
          · rw [z]; exact Nat.le_add_right _ _
          · rw [z]; exact Nat.le_add_right _ _
          · rw [z]; exact Nat.le_refl _
          · rw [z]; exact Nat.le_add_right _ _
        exact I1.fpOk hle (I1.hok.fresh hle)
      rcases q with ⟨hqx, q⟩ | ⟨hqx, q⟩
      · obtain ⟨its, rv, p1, _⟩ := I1.tuple hqx
        obtain ⟨its2, rv2, p2, _⟩ := I1.tuple hqy
        obtain ⟨o1, ho1, _⟩ := id p1
        obtain ⟨o2, ho2, _⟩ := id p2
        refine RZ.call_zipT (show s1.heap.IsTuple a its.toArray from p1) (show s1.heap.IsTuple b its2.toArray from p2) fun h' hz hTI hTO h1 h2 hsz hk => wpAny_pyIter_zip hz ?_
        have I2 : Inv X pins σ H1 { s1 with heap := h' } := I1.kept (t' := s1.toks) hk
        exact ⟨s1.heap.objs.size + 4, [s1.heap.objs.size + 4, s1.heap.objs.size + 2, s1.heap.objs.size + 3, s1.heap.objs.size, s1.heap.objs.size + 1], _, _, H1, rfl, I2, RZ.turn_zipT (PySem.W.ktu_apart s1.heap.objs.size a b (Heap.lt_size ho1) (Heap.lt_size ho2)), ⟨hz, hTI, ⟨_, _, hTO⟩, h1, h2⟩, fresh5, q⟩
      · obtain ⟨its, rv, p1, _⟩ := I1.list hqx
        obtain ⟨its2, rv2, p2, _⟩ := I1.tuple hqy
        obtain ⟨o2, ho2, _⟩ := id p2
        refine zip_begins2 (begins_list a its.toArray) (begins_tuple b its2.toArray) p1.isList (show s1.heap.IsTuple b its2.toArray from p2) fun h' hz hTI hTO h1 h2 hsz hk => wpAny_pyIter_zip hz ?_
        have I2 : Inv X pins σ H1 { s1 with heap := h' } := I1.kept (t' := s1.toks) hk
        exact ⟨s1.heap.objs.size + 4, [s1.heap.objs.size + 4, s1.heap.objs.size + 2, s1.heap.objs.size + 3, s1.heap.objs.size, s1.heap.objs.size + 1], _, _, H1, rfl, I2, turn_zipM (PySem.W.ktu_apart s1.heap.objs.size a b p1.lt (Heap.lt_size ho2)), ⟨hz, hTI, ⟨_, _, hTO⟩, ⟨_, h1, rfl, rfl⟩, ⟨_, h2, rfl, rfl⟩⟩, fresh5, q⟩
end OC
set_option Elab.async false
set_option linter.all false
set_option maxRecDepth 100000
set_option maxHeartbeats 2000000
/-! t.index(i) of a tuple of ints -/
set_option Elab.async false
set_option linter.all false
set_option maxRecDepth 100000
set_option maxHeartbeats 4000000
namespace OC
open PySem PySem.Spec PyProof.Rows L2
/-! ### tuples that are known to have no dict: their methods -/
def TupF (H : Hp) (l : Addr) (xs : List V) : Prop := ∃ o : Obj, o.dict = none ∧ H l = some (.frz o (.tup xs))
theorem TupF.sq {K : PySem.W.Frag} {H : Hp} {l : Addr} {xs : List V} (h : TupF H l xs) : SqT K H l xs := by
  obtain ⟨o, _, h⟩ := h
  exact .inl (.inr ⟨o, h⟩)
theorem TupF.same {H H' : Hp} {l : Addr} {xs : List V} (s : Same H H') (h : TupF H l xs) : TupF H' l xs := by
  obtain ⟨o, n, h⟩ := h
  exact ⟨o, n, s _ _ h⟩
end OC
set_option Elab.async false
set_option linter.all false
set_option maxRecDepth 100000
set_option maxHeartbeats 4000000
set_option Elab.async false
set_option linter.all false
set_option maxRecDepth 100000
set_option maxHeartbeats 4000000
/-! stage 4's plain form: rows reduced by one another, by mixes -/
namespace OC
open PySem PySem.Spec PyProof.Rows L2 Lin
inductive FAll (H : Hp) : List V → List (List Int) → Prop
  | nil : FAll H [] []
  | cons {b : Addr} {g : List Int} {vs : List V} {gs : List (List Int)} : TupF H b (g.map V.int) → FAll H vs gs → FAll H (.ref b :: vs) (g :: gs)
theorem FAll.same {H H' : Hp} (s : Same H H') : ∀ {vs : List V} {gs : List (List Int)}, FAll H vs gs → FAll H' vs gs
  | _, _, .nil => .nil
  | _, _, .cons h t => .cons (h.same s) (t.same s)
theorem FAll.app {H : Hp} : ∀ {vs us : List V} {gs hs : List (List Int)}, FAll H vs gs → FAll H us hs → FAll H (vs ++ us) (gs ++ hs)
  | _, _, _, _, .nil, h => h
  | _, _, _, _, .cons h t, h2 => .cons h (t.app h2)
theorem FAll.len {H : Hp} : ∀ {vs : List V} {gs : List (List Int)}, FAll H vs gs → vs.length = gs.length
  | _, _, .nil => rfl
  | _, _, .cons _ t => by rw [List.length_cons, List.length_cons, t.len]
theorem FAll.get {H : Hp} : ∀ {vs : List V} {gs : List (List Int)} {i : Nat} {v : V}, FAll H vs gs → vs[i]? = some v → ∃ b g, v = .ref b ∧ gs[i]? = some g ∧ TupF H b (g.map V.int)
  | _, _, _, _, .nil, h => by simp at h
  | _, _, 0, _, .cons (b := b) (g := g) h t, e => by cases e; exact ⟨b, g, rfl, rfl, h⟩
  | _, _, i + 1, v, .cons h t, e => t.get (i := i) (v := v) e
theorem FAll.mut {H : Hp} {D : Addr} {xs : List V} {o : HO} (e : H D = some (.lst xs)) : ∀ {vs : List V} {gs : List (List Int)}, FAll H vs gs → FAll (upd H D o) vs gs
  | _, _, .nil => .nil
  | _, _, .cons h t => by
    obtain ⟨ob, n, h⟩ := h
    exact .cons ⟨ob, n, by rw [upd_ne (fun z => by rw [z, e] at h; cases h)]; exact h⟩ (t.mut e)
theorem FAll.dp {K : PySem.W.Frag} {H : Hp} : ∀ {vs : List V} {gs : List (List Int)}, FAll H vs gs → DpAll K H vs (gs.map rowD)
  | _, _, .nil => .nil
  | _, _, .cons h t => .cons (row_dp h.sq) t.dp
end OC
set_option Elab.async false
set_option linter.all false
set_option maxRecDepth 100000
set_option maxHeartbeats 4000000
/-! stage 4's drawn stands -/
set_option Elab.async false
set_option linter.all false
set_option maxRecDepth 100000
set_option maxHeartbeats 4000000
/-! sorted of a list of data: tuples of texts, tuples of these, the empty tuple first among them -/
set_option Elab.async false
set_option linter.all false
set_option maxRecDepth 100000
set_option maxHeartbeats 4000000
/-! parts of a group: tuples of texts, all of them, sorted -/
namespace OC
open PySem PySem.Spec PyProof.Rows L2 PySem.W
def txD (s : List Str) : PyData := .tuple (s.map PyData.str)
theorem dpAll_strs {K : PySem.W.Frag} {H : Hp} : ∀ ns : List Str, DpAll K H (ns.map V.str) (ns.map PyData.str)
  | [] => .nil
  | x :: ns => .cons (.str x) (dpAll_strs ns)
theorem dpAll_str_inv {K : PySem.W.Frag} {H : Hp} : ∀ {xs : List V} {r : List Str}, DpAll K H xs (r.map PyData.str) → xs = r.map V.str
  | _, [], h => by cases h; rfl
  | _, x :: r, h => by
    cases h with
    | cons a b =>
      cases a
      rw [dpAll_str_inv b]
      rfl
theorem dpAll_tx {K : PySem.W.Frag} {H : Hp} {vs : List V} {ss : List (List Str)} {i : Nat} {v : V} (h : DpAll K H vs (ss.map txD)) (e : vs[i]? = some v) : ∃ a s, v = .ref a ∧ ss[i]? = some s ∧ s ∈ ss ∧ SqT K H a (s.map V.str) := by
  obtain ⟨d, g, _, dp⟩ := dpAll_get h e
  rw [List.getElem?_map] at g
  obtain ⟨x, hx, rfl⟩ := Option.map_eq_some_iff.mp g
  unfold txD at dp
  cases dp with
  | tup h1 h2 =>
    rw [dpAll_str_inv h2] at h1
    exact ⟨_, x, rfl, hx, List.mem_of_getElem? hx, h1⟩
theorem sel_mem {ns : List Str} {r : List Int} : ∀ {hs : List (Str × List (List Int))}, r ∈ selR ns hs → ∃ h ∈ hs, h.1 ∈ ns ∧ r ∈ h.2
  | [], hr => (nomatch hr)
  | h :: hs, hr => by
    have e : selR ns (h :: hs) = (if h.1 ∈ ns then h.2 else []) ++ selR ns hs := rfl
    rw [e] at hr
    rcases List.mem_append.mp hr with hr | hr
    · by_cases hn : h.1 ∈ ns
      · rw [if_pos hn] at hr
        exact ⟨h, List.mem_cons_self, hn, hr⟩
      · rw [if_neg hn] at hr
        exact (nomatch hr)
    · obtain ⟨x, mx, a, b⟩ := sel_mem hr
      exact ⟨x, List.mem_cons_of_mem _ mx, a, b⟩
theorem mem_sel {ns : List Str} {r : List Int} : ∀ {hs : List (Str × List (List Int))} {h : Str × List (List Int)}, h ∈ hs → h.1 ∈ ns → r ∈ h.2 → r ∈ selR ns hs
  | [], _, hh, _, _ => (nomatch hh)
  | x :: hs, h, hh, hn, hr => by
    have e : selR ns (x :: hs) = (if x.1 ∈ ns then x.2 else []) ++ selR ns hs := rfl
    rw [e]
    rcases List.mem_cons.mp hh with rfl | hh
    · rw [if_pos hn]
      exact List.mem_append_left _ hr
    · exact List.mem_append_right _ (mem_sel hh hn hr)
end OC
set_option Elab.async false
set_option linter.all false
set_option maxRecDepth 100000
set_option maxHeartbeats 4000000
/-! partings of a group; comprehensions with two clauses -/
namespace OC
open PySem PySem.Spec PyProof.Rows L2 PySem.W
/-! ### two clauses -/
/-! ### partings as data -/
def ptD (s : List (List Str)) : PyData := .tuple (s.map txD)
/-! ### the splits of some names -/
def growR (x : Str) (s : List (List Str)) : List (List (List Str)) := (List.range s.length).map (fun k => s.take k ++ ([s.getD k [] ++ [x]] ++ s.drop (k + 1))) ++ [s ++ [[x]]]
def splitsR (ns : List Str) : List (List (List Str)) := ns.foldl (fun acc x => acc.flatMap (growR x)) [[]]
structure SplitOk (ns : List Str) (s : List (List Str)) : Prop where
  pm : s.flatten.Perm ns
  ne : ∀ p ∈ s, p ≠ []
  le : s.length ≤ ns.length
theorem grow_mem {x : Str} {s t : List (List Str)} (h : t ∈ growR x s) : (∃ k, k < s.length ∧ t = s.take k ++ ([s.getD k [] ++ [x]] ++ s.drop (k + 1))) ∨ t = s ++ [[x]] := by
  unfold growR at h
  rcases List.mem_append.mp h with h | h
  · obtain ⟨k, mk, rfl⟩ := List.mem_map.mp h
    exact .inl ⟨k, List.mem_range.mp mk, rfl⟩
  · exact .inr (List.mem_singleton.mp h)
theorem split_at {s : List (List Str)} {k : Nat} (h : k < s.length) : s = s.take k ++ ([s.getD k []] ++ s.drop (k + 1)) := by
  have e : s.getD k [] = s[k] := by rw [List.getD_eq_getElem?_getD, List.getElem?_eq_getElem h]; rfl
  rw [e]
  have : [s[k]] ++ s.drop (k + 1) = s.drop k := (List.drop_eq_getElem_cons h).symm
  rw [this, List.take_append_drop]
theorem grow_ok {ns : List Str} {x : Str} {s t : List (List Str)} (o : SplitOk ns s) (h : t ∈ growR x s) : SplitOk (ns ++ [x]) t := by
  rcases grow_mem h with ⟨k, hk, rfl⟩ | rfl
  · have es := split_at hk
    refine ⟨?_, fun p hp => ?_, ?_⟩
    · have pm := o.pm
      rw [es] at pm
      simp only [List.flatten_append, List.flatten_cons, List.flatten_nil, List.append_nil] at pm ⊢
      refine List.Perm.trans ?_ (pm.append_right [x])
      simp only [List.append_assoc]
      refine List.Perm.append_left _ (List.Perm.append_left _ ?_)
      exact List.perm_append_comm
    · rcases List.mem_append.mp hp with hp | hp
      · exact o.ne p (List.mem_of_mem_take hp)
      · rcases List.mem_append.mp hp with hp | hp
        · rw [List.mem_singleton.mp hp]
          simp
        · exact o.ne p (List.mem_of_mem_drop hp)
    · have := o.le
      simp only [List.length_append, List.length_take, List.length_drop, List.length_cons, List.length_nil]
      omega
  · refine ⟨?_, fun p hp => ?_, ?_⟩
    · rw [List.flatten_append]
      exact o.pm.append_right [x]
    · rcases List.mem_append.mp hp with hp | hp
      · exact o.ne p hp
      · rw [List.mem_singleton.mp hp]
        simp
    · have := o.le
      simp only [List.length_append, List.length_cons, List.length_nil]
      omega
theorem splits_okF : ∀ (ns ms : List Str) (acc : List (List (List Str))), (∀ s ∈ acc, SplitOk ms s) → ∀ t ∈ ns.foldl (fun acc x => acc.flatMap (growR x)) acc, SplitOk (ms ++ ns) t
  | [], ms, acc, h, t, ht => by rw [List.append_nil]; exact h t ht
  | x :: ns, ms, acc, h, t, ht => by
    have := splits_okF ns (ms ++ [x]) (acc.flatMap (growR x)) (fun s hs => by
      obtain ⟨u, mu, hu⟩ := List.mem_flatMap.mp hs
      exact grow_ok (h u mu) hu) t ht
    rwa [List.append_assoc] at this
theorem splits_ok {ns : List Str} {s : List (List Str)} (h : s ∈ splitsR ns) : SplitOk ns s := by
  have := splits_okF ns [] [[]] (fun s hs => by
    rw [List.mem_singleton.mp hs]
    exact ⟨.refl _, fun p hp => (nomatch hp), Nat.le_refl _⟩) s h
  exact this
/-- all partings of a group, rising -/
def partingsR (ns : List Str) : List (List (List Str)) := ((splitsR ns).filter fun s => decide (s.length > 1)).mergeSort (dataLe false ptD)
theorem partings_mem {ns : List Str} {s : List (List Str)} : s ∈ partingsR ns ↔ s ∈ splitsR ns ∧ 1 < s.length := by
  unfold partingsR
  rw [(List.mergeSort_perm _ _).mem_iff, List.mem_filter]
  exact ⟨fun h => ⟨h.1, of_decide_eq_true h.2⟩, fun h => ⟨h.1, decide_eq_true h.2⟩⟩
end OC
set_option Elab.async false
set_option linter.all false
set_option maxRecDepth 100000
set_option maxHeartbeats 4000000
/-! how much hands know together: partings of a group -/
namespace OC
open PySem PySem.Spec PyProof.Rows L2
/-- what a look at a stand asks of it -/
structure StandR (p : Int) (n : Nat) (kn : List (List Int)) (hs : List (Str × List (List Int))) : Prop where
  fld : Fld p
  p1 : p ≤ 1000
  n1 : 1 ≤ n
  n8 : n ≤ 8
  ok : RowsOk p n kn
  lk : kn.length ≤ 8
  many : hs.length ≤ 9
  rm : ∀ x ∈ hs, RowsOk p n x.2
  lr : ∀ x ∈ hs, x.2.length ≤ 8
theorem Stand5.toR {p : Int} {n : Nat} {kn : List (List Int)} {hs : List (Str × List (List Int))} (S : Stand5 p n kn hs) : StandR p n kn hs where
  fld := S.fld
  p1 := S.p1
  n1 := S.n1
  n8 := S.n8
  ok := S.pk.1
  lk := Nat.le_trans (PFR.len S.fld S.pk) S.n8
  many := S.many
  rm := fun x hx => (S.ph x hx).1
  lr := fun x hx => Nat.le_trans (PFR.len S.fld (S.ph x hx)) S.n8
/-- how much some hands know together beyond the calls -/
def sizeR (p : Int) (n : Nat) (kn : List (List Int)) (hs : List (Str × List (List Int))) (ns : List Str) : Int := ((plainR p n (kn ++ selR ns hs)).length : Int) - (kn.length : Int)
end OC
set_option Elab.async false
set_option linter.all false
set_option maxRecDepth 100000
set_option maxHeartbeats 4000000
/-! sorted of a tuple of data -/
set_option Elab.async false
set_option linter.all false
set_option maxRecDepth 100000
set_option maxHeartbeats 4000000
/-! asides: a call that tells the one and not the other -/
set_option Elab.async false
set_option linter.all false
set_option maxRecDepth 100000
set_option maxHeartbeats 4000000
/-! dict() of a tuple of pairs -/
set_option Elab.async false
set_option linter.all false
set_option maxRecDepth 100000
set_option maxHeartbeats 4000000
/-! asides: all calls of a room by five -/
namespace OC
open PySem PySem.Spec PyProof.Rows L2
/-! ### a stand taken by five -/
theorem sel_one : ∀ {hs : List (Str × List (List Int))} {h : Str × List (List Int)}, (hs.map Prod.fst).Nodup → h ∈ hs → selR [h.1] hs = h.2
  | [], _, _, hh => (nomatch hh)
  | x :: hs, h, nd, hh => by
    rw [List.map_cons, List.nodup_cons] at nd
    have none : ∀ {y : Str}, y ∉ hs.map Prod.fst → selR [y] hs = [] := fun {y} ny => by
      unfold selR
      refine List.flatMap_eq_nil_iff.mpr fun z hz => if_neg fun e => ny ?_
      rw [← List.mem_singleton.mp e]
      exact List.mem_map_of_mem hz
    have cons : selR [h.1] (x :: hs) = (if x.1 ∈ [h.1] then x.2 else []) ++ selR [h.1] hs := rfl
    rw [cons]
    rcases List.mem_cons.mp hh with rfl | hh
    · rw [if_pos (List.mem_singleton.mpr rfl), none nd.1, List.append_nil]
    · rw [if_neg (fun e => nd.1 (by rw [List.mem_singleton.mp e]; exact List.mem_map_of_mem hh)), sel_one nd.2 hh]
      rfl
/-! ### the rooms by their names -/
/-- a dict that holds a room for each of those names -/
def RoomsD (K : PySem.W.Frag) (H : Hp) (o : Addr) (hs : List (Str × List (List Int))) : Prop := ∃ kvs : List (L2.Key × V), H o = some (.dK kvs) ∧ ∀ h ∈ hs, ∃ r, valV kvs (.inr h.1) = some (.ref r) ∧ RowsAt K H r h.2
theorem rowsAt_tk {K : PySem.W.Frag} {H H' : Hp} {a : Addr} {rs : List (List Int)} (k : Tk H H') (h : RowsAt K H a rs) : RowsAt K H' a rs := by
  obtain ⟨ws, h1, h2⟩ := h
  exact ⟨ws, k _ _ _ h1, dpAll_tk k _ _ (noL_rows _) h2⟩
theorem RoomsD.same {K : PySem.W.Frag} {H H' : Hp} {o : Addr} {hs : List (Str × List (List Int))} (s : Same H H') (h : RoomsD K H o hs) : RoomsD K H' o hs := by
  obtain ⟨kvs, h1, h2⟩ := h
  refine ⟨kvs, s _ _ h1, fun x hx => ?_⟩
  obtain ⟨r, h3, h4⟩ := h2 x hx
  exact ⟨r, h3, rowsAt_tk (Tk.of s) h4⟩
theorem RoomsD.kept {K : PySem.W.Frag} {H H' : Hp} {o d c : Addr} {t : Int} {hs : List (Str × List (List Int))} (D : Deck H d c t) (k : Kept d c H H') (h : RoomsD K H o hs) : RoomsD K H' o hs := by
  obtain ⟨kvs, h1, h2⟩ := h
  refine ⟨kvs, k _ _ h1 (fun z => by subst z; rw [D.hd] at h1; cases h1) (fun z => by subst z; obtain ⟨_, hc, _⟩ := D.hc; rw [hc] at h1; cases h1), fun x hx => ?_⟩
  obtain ⟨r, h3, h4⟩ := h2 x hx
  exact ⟨r, h3, rowsAt_tk (Tk.kept D k) h4⟩
/-- the stand by five, whose hands' tuple has no dict -/
def FiveAt (K : PySem.W.Frag) (H : Hp) (a : Addr) (n : Nat) (kn : List (List Int)) (hs : List (Str × List (List Int))) : Prop := ∃ (k g : Addr) (ws : List V), SqT K H a [.int 5, .int (n : Int), .ref k, .ref g] ∧ RowsAt K H k kn ∧ TupF H g ws ∧ DpAll K H ws (hs.map handD)
theorem FiveAt.same {K : PySem.W.Frag} {H H' : Hp} {a : Addr} {n : Nat} {kn : List (List Int)} {hs : List (Str × List (List Int))} (s : Same H H') (h : FiveAt K H a n kn hs) : FiveAt K H' a n kn hs := by
  obtain ⟨k, g, ws, h1, h2, h3, h4⟩ := h
  exact ⟨k, g, ws, Same.tup s h1, rowsAt_tk (Tk.of s) h2, h3.same s, dpAll_same s _ _ h4⟩
theorem FiveAt.kept {K : PySem.W.Frag} {H H' : Hp} {a d c : Addr} {t : Int} {n : Nat} {kn : List (List Int)} {hs : List (Str × List (List Int))} (D : Deck H d c t) (e : Kept d c H H') (h : FiveAt K H a n kn hs) : FiveAt K H' a n kn hs := by
  obtain ⟨k, g, ws, h1, h2, ⟨o, h5, h3⟩, h4⟩ := h
  refine ⟨k, g, ws, Kept.tup D e h1, rowsAt_tk (Tk.kept D e) h2, ⟨o, h5, e _ _ h3 (fun z => by subst z; rw [D.hd] at h3; cases h3) (fun z => by subst z; obtain ⟨_, hc, _⟩ := D.hc; rw [hc] at h3; cases h3)⟩, dpAll_tk (Tk.kept D e) _ _ (noL_hands _) h4⟩
theorem FiveAt.dp {K : PySem.W.Frag} {H : Hp} {a : Addr} {n : Nat} {kn : List (List Int)} {hs : List (Str × List (List Int))} (h : FiveAt K H a n kn hs) : Dp K H (.ref a) (standD 5 n kn hs) := by
  obtain ⟨k, g, ws, h1, ⟨wk, h2, h3⟩, h4, h5⟩ := h
  exact .tup h1 (.cons (.int 5) (.cons (.int n) (.cons (.tup h2 h3) (.cons (.tup h4.sq h5) .nil))))
end OC
set_option Elab.async false
set_option linter.all false
set_option maxRecDepth 100000
set_option maxHeartbeats 2000000
/-! zip of a tuple and a list -/
set_option Elab.async false
set_option linter.all false
set_option maxRecDepth 100000
set_option maxHeartbeats 4000000
set_option Elab.async false
set_option linter.all false
set_option maxRecDepth 100000
set_option maxHeartbeats 4000000
/-! a stand whose hands' tuple has no dict, and its rooms by their names -/
namespace OC
open PySem PySem.Spec PyProof.Rows L2
def StandAt (K : PySem.W.Frag) (H : Hp) (a : Addr) (p : Int) (n : Nat) (kn : List (List Int)) (hs : List (Str × List (List Int))) : Prop := ∃ (k g : Addr) (ws : List V), SqT K H a [.int p, .int (n : Int), .ref k, .ref g] ∧ RowsAt K H k kn ∧ TupF H g ws ∧ DpAll K H ws (hs.map handD)
section
variable {K : PySem.W.Frag} {H H' : Hp} {a d c o : Addr} {t p : Int} {n : Nat} {kn : List (List Int)} {hs : List (Str × List (List Int))}
theorem StandAt.same (s : Same H H') (h : StandAt K H a p n kn hs) : StandAt K H' a p n kn hs := by
  obtain ⟨k, g, ws, h1, h2, h3, h4⟩ := h
  exact ⟨k, g, ws, Same.tup s h1, rowsAt_tk (Tk.of s) h2, h3.same s, dpAll_same s _ _ h4⟩
theorem StandAt.kept (D : Deck H d c t) (e : Kept d c H H') (h : StandAt K H a p n kn hs) : StandAt K H' a p n kn hs := by
  obtain ⟨k, g, ws, h1, h2, ⟨o, h5, h3⟩, h4⟩ := h
  refine ⟨k, g, ws, Kept.tup D e h1, rowsAt_tk (Tk.kept D e) h2, ⟨o, h5, e _ _ h3 (fun z => by subst z; rw [D.hd] at h3; cases h3) (fun z => by subst z; obtain ⟨_, hc, _⟩ := D.hc; rw [hc] at h3; cases h3)⟩, dpAll_tk (Tk.kept D e) _ _ (noL_hands _) h4⟩
theorem StandAt.dp (h : StandAt K H a p n kn hs) : Dp K H (.ref a) (standD p n kn hs) := by
  obtain ⟨k, g, ws, h1, ⟨wk, h2, h3⟩, h4, h5⟩ := h
  exact .tup h1 (.cons (.int p) (.cons (.int n) (.cons (.tup h2 h3) (.cons (.tup h4.sq h5) .nil))))
/-- rooms[x] -/
theorem RoomsD.get (h : RoomsD K H o hs) {z : Str × List (List Int)} (mz : z ∈ hs) : ∃ r, DGet H o (.str z.1) (some (.ref r)) ∧ RowsAt K H r z.2 := by
  obtain ⟨kvs, h1, h2⟩ := h
  obtain ⟨r, h3, h4⟩ := h2 z mz
  refine ⟨r, ?_, h4⟩
  have := DGet.k (k := (Sum.inr z.1 : L2.Key)) h1
  rw [h3] at this
  exact this
/-- a hand's room is what it knows with the calls -/
theorem Stand5.own (S : Stand5 p n kn hs) {z : Str × List (List Int)} (mz : z ∈ hs) : plainR p n (kn ++ selR [z.1] hs) = z.2 := by
  rw [sel_one S.nd mz]
  have pz := S.ph z mz
  refine (plain_same S.fld (rowsOk_app S.pk.1 pz.1) pz.1 (fun r hr => ?_) fun r hr => InR.mem (List.mem_append_right _ hr)).trans pz.2
  rcases List.mem_append.mp hr with hr | hr
  · exact S.inn z mz r hr
  · exact InR.mem hr
end
end OC
set_option Elab.async false
set_option linter.all false
set_option maxRecDepth 100000
set_option maxHeartbeats 4000000
/-! max(xs, key=lambda x: x[0]) over a list of new tuples whose first thing is a whole number -/
namespace OC
open PySem PySem.Spec PyProof.Rows L2 LamX
/-- all but the frames' slots is as it was -/
structure Still (fs : List Addr) (h h' : Heap) : Prop where
  keep : ∀ b o, h.get? b = some o → b ∉ fs → h'.get? b = some o
  slot : ∀ b o, h.get? b = some o → ∃ sl, h'.get? b = some { o with slots := sl }
theorem Still.refl (fs : List Addr) (h : Heap) : Still fs h h := ⟨fun _ _ e _ => e, fun _ o e => ⟨o.slots, e⟩⟩
theorem Still.trans {fs : List Addr} {h h1 h2 : Heap} (a : Still fs h h1) (b : Still fs h1 h2) : Still fs h h2 := ⟨fun x o e n => b.keep x o (a.keep x o e n) n, fun x o e => by
  obtain ⟨s1, e1⟩ := a.slot x o e
  obtain ⟨s2, e2⟩ := b.slot x _ e1
  exact ⟨s2, e2⟩⟩
theorem Still.of {fs : List Addr} {h h' : Heap} (k : ∀ b o, h.get? b = some o → h'.get? b = some o) : Still fs h h' := ⟨fun b o e _ => k b o e, fun b o e => ⟨o.slots, k b o e⟩⟩
end OC
set_option Elab.async false
set_option linter.all false
set_option maxRecDepth 100000
set_option maxHeartbeats 2000000
/-! tables of code objects: what stays where a lambda is made; the end with one table and the modules' dict -/
namespace OC
open PySem PySem.Spec PyProof.Rows L2 LamX
/-! ### what stays -/
theorem ExtN.same {H H' : Hp} (e : Same H H') : ExtN H H' := fun b o h _ => e b o h
theorem ExtN.tk {H H' : Hp} (e : ExtN H H') : Tk H H' := fun K a xs h => by
  rcases h with (h | ⟨o, h⟩) | h
  · exact .inl (.inl (e _ _ h fun ps z => by cases z))
  · exact .inl (.inr ⟨o, e _ _ h fun ps z => by cases z⟩)
  · exact .inr h
theorem ExtN.lst {H H' : Hp} (e : ExtN H H') {a : Addr} {xs : List V} (h : H a = some (.lst xs)) : H' a = some (.lst xs) := e _ _ h fun ps z => by cases z
theorem ExtN.tup {H H' : Hp} (e : ExtN H H') {a : Addr} {xs : List V} (h : H a = some (.tup xs)) : H' a = some (.tup xs) := e _ _ h fun ps z => by cases z
/-- all but the deck's two lists and the tables stays -/
def KeptN (d c : Addr) (H H' : Hp) : Prop := ∀ b o, H b = some o → b ≠ d → b ≠ c → (∀ ps, o ≠ .tbl ps) → H' b = some o
theorem KeptN.refl (d c : Addr) (H : Hp) : KeptN d c H H := fun _ _ h _ _ _ => h
theorem KeptN.trans {d c : Addr} {H H1 H2 : Hp} (a : KeptN d c H H1) (b : KeptN d c H1 H2) : KeptN d c H H2 := fun x o h n m t => b x o (a x o h n m t) n m t
theorem KeptN.of {d c : Addr} {H H' : Hp} (a : Kept d c H H') : KeptN d c H H' := fun x o h n m _ => a x o h n m
theorem KeptN.ext {d c : Addr} {H H' : Hp} (a : ExtN H H') : KeptN d c H H' := fun x o h _ _ t => a x o h t
section
variable {T : List (Addr × Str)} {H H' : Hp}
theorem Tabs.same (t : Tabs T H) (e : Same H H') : Tabs T H' := t.ext e
/-- tables stay where all but two lists stays -/
theorem Tabs.kept {d c : Addr} {xs ys : List V} (t : Tabs T H) (hd : H d = some (.lst xs)) (hc : H c = some (.lst ys)) (k : Kept d c H H') : Tabs T H' := fun p hp => by
  obtain ⟨ps, h1, h2, h3⟩ := t p hp
  have nd : ∀ {b : Addr} {o : HO}, H b = some o → (∀ zs, o ≠ .lst zs) → b ≠ d ∧ b ≠ c := fun {b o} e n => ⟨fun z => by
    rw [z, hd] at e
    exact n _ (Option.some.inj e).symm, fun z => by
    rw [z, hc] at e
    exact n _ (Option.some.inj e).symm⟩
  obtain ⟨n1, n2⟩ := nd h1 (fun zs z => by cases z)
  refine ⟨ps, k _ _ h1 n1 n2, h2, fun pos cv hcv => ?_⟩
  obtain ⟨co, e1, e2⟩ := h3 pos cv hcv
  obtain ⟨m1, m2⟩ := nd e2 (fun zs z => by
    unfold CodeO at z
    cases z)
  exact ⟨co, e1, k _ _ e2 m1 m2⟩
end
/-! ### the end -/
end OC
set_option Elab.async false
set_option linter.all false
set_option maxRecDepth 100000
set_option maxHeartbeats 4000000
/-! a def whose code object is known -/
namespace OC
open PySem PySem.Spec PyProof.Rows L2 LamX
/-- a def by name, its code object at c -/
structure DfC (K : PySem.W.Frag) (mg : Str → Option Value) (x : Str) (st : Stmt) (ps : List Str) (c : Addr) : Prop where
  ex : ∃ (f : Addr) (oc : Value) (od an : Option Addr) (kV doc pm ct : Value) (osl : Array (Option Value)),
    K.lookup f = some ⟨oc, od, .func (PySem.W.fnOf x x (defArgs st) (defBody st) (defScope st) .none kV doc pm an (.ref c) ct), osl⟩ ∧ PySem.W.codeIn K (.ref c) x = true ∧ PySem.W.keepIn K (.ref f) = true ∧ mg x = some (.ref f) ∧
    Binds K (PySem.W.fnOf x x (defArgs st) (defBody st) (defScope st) .none kV doc pm an (.ref c) ct) ps []
section
variable {P : Program} {w : World} {K : PySem.W.Frag} {mg : Str → Option Value} {base : Heap}
theorem DfC.ok {x : Str} {st : Stmt} {N ps : List Str} {k : Nat} {c : Addr} {sp : Sp} (D : DfC K mg x st ps c) (S : FnScope N ps (defScope st)) (len : ∀ vs H Q E, sp vs H Q E → vs.length = ps.length)
    (hbody : ∀ (f : Addr) (A : Around) (outer : List Env) (s : Shared) (H : Hp) (vs : List V) (Q : VK) (E : XK), Room k (A.deeper (envOfC x (defScope st) s.heap.objs.size f (.ref c))) → sp vs H Q E →
      ∃ t, PSs (cxOf CX0 P w K mg base N x (defScope st) f (.ref c) A outer s H E).nox (defBody st) t ∧ t { nx := fun _ H' => Q .non H', rt := Q } (start N vs) H) : Ok P w K mg base (k + 1) x ps sp := by
  obtain ⟨f, oc, od, an, kV, doc, pm, ct, osl, lk, hc, hk, hm, hb⟩ := D.ex
  refine ⟨f, _, fn_of (CX := CX0) lk hc S len fun A outer s H vs Q E hr hsp => ?_, hm, hk, hb⟩
  obtain ⟨t, ht, hq⟩ := hbody f A outer s H vs Q E hr hsp
  exact ⟨t, ht.nox, hq⟩
end
end OC
set_option Elab.async false
set_option linter.all false
set_option maxRecDepth 100000
set_option maxHeartbeats 4000000
/-! rooms of parts: a dict whose keys are tuples of names -/
namespace OC
open PySem PySem.Spec PyProof.Rows L2
def pk (q : List Str) : List L2.Key := q.map Sum.inr
/-! ### all choices of some names -/
/-! ### the group's hands, in the stand's order -/
/-! ### the rooms -/
/-- the room of a part -/
def roomR (p : Int) (n : Nat) (kn : List (List Int)) (hs : List (Str × List (List Int))) (q : List Str) : List (List Int) := plainR p n (kn ++ selR q hs)
section
variable {p : Int} {n : Nat} {kn : List (List Int)} {hs : List (Str × List (List Int))}
theorem room_rows (S : Stand5 p n kn hs) (q : List Str) : RowsOk p n (kn ++ selR q hs) := rowsOk_app S.pk.1 (sel_ok S.toR.rm)
theorem room_pf (S : Stand5 p n kn hs) (q : List Str) : PFR p n (roomR p n kn hs q) := PFR.of_plain S.fld (room_rows S q)
theorem room_nil (S : Stand5 p n kn hs) : roomR p n kn hs [] = kn := by
  unfold roomR
  have : selR [] hs = [] := by
    unfold selR
    induction hs with
    | nil => rfl
    | cons x hs ih => simp
  rw [this, List.append_nil]
  exact S.pk.2
end
/-! ### the dict -/
/-- the dict at o tells a room f q by each of the parts ps, in this order -/
structure RoomsT (K : PySem.W.Frag) (H : Hp) (o : Addr) (f : List Str → List (List Int)) (ps : List (List Str)) (kvs : List (List L2.Key × V)) : Prop where
  at_ : H o = some (.dT kvs)
  keys : kvs.map (·.1) = ps.map pk
  val : ∀ q ∈ ps, ∃ r, valV kvs (pk q) = some (.ref r) ∧ RowsAt K H r (f q)
section
variable {K : PySem.W.Frag} {H H' : Hp} {o : Addr} {f : List Str → List (List Int)} {ps : List (List Str)} {kvs : List (List L2.Key × V)}
theorem RoomsT.len (h : RoomsT K H o f ps kvs) : kvs.length = ps.length := by
  have := congrArg List.length h.keys
  rwa [List.length_map, List.length_map] at this
theorem RoomsT.same (h : RoomsT K H o f ps kvs) (s : Same H H') : RoomsT K H' o f ps kvs := ⟨s _ _ h.at_, h.keys, fun q hq => by
  obtain ⟨r, a, b⟩ := h.val q hq
  exact ⟨r, a, b.same s⟩⟩
end
end OC
set_option Elab.async false
set_option linter.all false
set_option maxRecDepth 100000
set_option maxHeartbeats 4000000
/-! d[t]: t any tuple that is known, not just one in the heap -/
set_option Elab.async false
set_option linter.all false
set_option maxRecDepth 100000
set_option maxHeartbeats 4000000
/-! the greatest bound; a def whose code object is known -/
namespace OC
open PySem PySem.Spec PyProof.Rows L2 LamX
/-! ### parts of splits stand in the group's order -/
/-! ### the greatest bound -/
def boundOf (z : Int) (ns : List Int) : Int := z - (ns.sum - z) / ((ns.length : Int) - 1)
/-- the bound of a parting, by how much its parts know -/
def boundG (f : List Str → Int) (ms : List Str) (P : List (List Str)) : Int := boundOf (f ms) (P.map f)
/-- the first of the group's partings with the greatest bound -/
structure BestP (f : List Str → Int) (ms : List Str) (P : List (List Str)) : Prop where
  ex : ∃ m : Nat, (partingsR ms)[m]? = some P ∧ ∀ (j : Nat) (P' : List (List Str)), (partingsR ms)[j]? = some P' → boundG f ms P' ≤ boundG f ms P ∧ (j < m → boundG f ms P' < boundG f ms P)
theorem BestP.uniq {f : List Str → Int} {ms : List Str} {P P' : List (List Str)} (a : BestP f ms P) (b : BestP f ms P') : P = P' := by
  obtain ⟨m, hm, am⟩ := a.ex
  obtain ⟨m', hm', bm⟩ := b.ex
  have h1 := am m' P' hm'
  have h2 := bm m P hm
  rcases Nat.lt_trichotomy m m' with h | h | h
  · have := h2.2 h
    omega
  · subst h
    rw [hm] at hm'
    exact Option.some.inj hm'
  · have := h1.2 h
    omega
theorem BestP.mem {f : List Str → Int} {ms : List Str} {P : List (List Str)} (a : BestP f ms P) : P ∈ partingsR ms := by
  obtain ⟨m, hm, _⟩ := a.ex
  exact List.mem_of_getElem? hm
theorem BestP.le {f : List Str → Int} {ms : List Str} {P P' : List (List Str)} (a : BestP f ms P) (h : P' ∈ partingsR ms) : boundG f ms P' ≤ boundG f ms P := by
  obtain ⟨m, hm, am⟩ := a.ex
  obtain ⟨j, hj, e⟩ := List.getElem_of_mem h
  exact (am j P' (by rw [List.getElem?_eq_getElem hj, e])).1
end OC
set_option Elab.async false
set_option linter.all false
set_option maxRecDepth 100000
set_option maxHeartbeats 4000000
/-! dict() of a list of pairs whose keys are tuples; lists of tuples of names that stand in the heap -/
namespace OC
open PySem PySem.Spec PyProof.Rows L2 PySem.W
/-! ### tuples of names in the heap -/
inductive TxAll (H : Hp) : List V → List (List Str) → Prop
  | nil : TxAll H [] []
  | cons {b : Addr} {q : List Str} {ws : List V} {qs : List (List Str)} : H b = some (.tup (q.map V.str)) → TxAll H ws qs → TxAll H (.ref b :: ws) (q :: qs)
theorem txD_inj {q r : List Str} (h : txD q = txD r) : q = r := by
  unfold txD at h
  injection h with h
  induction q generalizing r with
  | nil => cases r with
    | nil => rfl
    | cons _ _ => cases h
  | cons x q ih => cases r with
    | nil => cases h
    | cons y r =>
      obtain ⟨h1, h2⟩ := List.cons.inj h
      injection h1 with h1
      rw [h1, ih h2]
section
variable {H H' : Hp}
theorem TxAll.same (s : Same H H') : ∀ {ws : List V} {qs : List (List Str)}, TxAll H ws qs → TxAll H' ws qs
  | _, _, .nil => .nil
  | _, _, .cons h t => .cons (s _ _ h) (t.same s)
theorem TxAll.app : ∀ {ws us : List V} {qs rs : List (List Str)}, TxAll H ws qs → TxAll H us rs → TxAll H (ws ++ us) (qs ++ rs)
  | _, _, _, _, .nil, h => h
  | _, _, _, _, .cons h t, g => .cons h (t.app g)
theorem TxAll.len : ∀ {ws : List V} {qs : List (List Str)}, TxAll H ws qs → ws.length = qs.length
  | _, _, .nil => rfl
  | _, _, .cons _ t => by rw [List.length_cons, List.length_cons, t.len]
theorem TxAll.get : ∀ {ws : List V} {qs : List (List Str)} {i : Nat} {v : V}, TxAll H ws qs → ws[i]? = some v → ∃ b q, v = .ref b ∧ qs[i]? = some q ∧ q ∈ qs ∧ H b = some (.tup (q.map V.str))
  | _, _, _, _, .nil, e => by simp at e
  | _, _, 0, _, .cons (b := b) (q := q) h t, e => by
    cases e
    exact ⟨b, q, rfl, rfl, List.mem_cons_self, h⟩
  | _, _, i + 1, v, .cons h t, e => by
    obtain ⟨b, q, e1, e2, e3, e4⟩ := t.get (i := i) (v := v) e
    exact ⟨b, q, e1, e2, List.mem_cons_of_mem _ e3, e4⟩
theorem TxAll.drop : ∀ {ws : List V} {qs : List (List Str)} (k : Nat), TxAll H ws qs → TxAll H (ws.drop k) (qs.drop k)
  | _, _, 0, h => h
  | _, _, _ + 1, .nil => .nil
  | _, _, k + 1, .cons _ t => t.drop k
theorem TxAll.mut {D : Addr} {xs ys : List V} (e : H D = some (.lst xs)) : ∀ {ws : List V} {qs : List (List Str)}, TxAll H ws qs → TxAll (upd H D (.lst ys)) ws qs
  | _, _, .nil => .nil
  | _, _, .cons h t => .cons (by
      rw [upd_ne (fun z => by
        rw [z, e] at h
        cases h)]
      exact h) (t.mut e)
theorem TxAll.dp {K : PySem.W.Frag} : ∀ {ws : List V} {qs : List (List Str)}, TxAll H ws qs → DpAll K H ws (qs.map txD)
  | _, _, .nil => .nil
  | _, _, .cons h t => .cons (.tup (.inl (.inl h)) (dpAll_strs _)) t.dp
theorem TxAll.of : ∀ {ps : List (V × PyData)} {rs : List (List Str)}, (∀ p ∈ ps, ∃ b q, p = (.ref b, txD q) ∧ H b = some (.tup (q.map V.str))) → ps.map Prod.snd = rs.map txD → TxAll H (ps.map Prod.fst) rs
  | [], [], _, _ => .nil
  | [], _ :: _, _, e => by cases e
  | _ :: _, [], _, e => by cases e
  | p :: ps, r :: rs, h, e => by
    rw [List.map_cons, List.map_cons] at e
    obtain ⟨e1, e2⟩ := List.cons.inj e
    obtain ⟨b, q, rfl, hb⟩ := h p List.mem_cons_self
    have : q = r := txD_inj e1
    subst this
    exact .cons hb (TxAll.of (fun p hp => h p (List.mem_cons_of_mem _ hp)) e2)
end
/-! ### dict() -/
end OC
set_option Elab.async false
set_option linter.all false
set_option maxRecDepth 100000
set_option maxHeartbeats 4000000
/-! min of a list of data; the least of the pairs of a number and a parting -/
set_option Elab.async false
set_option linter.all false
set_option maxRecDepth 100000
set_option maxHeartbeats 4000000
/-! tables stay while numbers are drawn; what repr asks of a pair of a number and a parting -/
set_option Elab.async false
set_option linter.all false
set_option maxRecDepth 100000
set_option maxHeartbeats 4000000
/-! the least number of calls: the greatest bound -/
namespace OC
open PySem PySem.Spec PyProof.Rows L2
/-- the greatest of some whole numbers -/
def topR : List Int → Int
  | [] => 0
  | x :: xs => xs.foldl (fun a y => if a < y then y else a) x
theorem topF : ∀ (xs : List Int) (x : Int), (xs.foldl (fun a y => if a < y then y else a) x = x ∨ xs.foldl (fun a y => if a < y then y else a) x ∈ xs) ∧ x ≤ xs.foldl (fun a y => if a < y then y else a) x ∧ ∀ y ∈ xs, y ≤ xs.foldl (fun a y => if a < y then y else a) x
  | [], x => ⟨.inl rfl, Int.le_refl _, fun y hy => (nomatch hy)⟩
  | z :: xs, x => by
    rw [List.foldl_cons]
    obtain ⟨h1, h2, h3⟩ := topF xs (if x < z then z else x)
    generalize xs.foldl (fun a y => if a < y then y else a) (if x < z then z else x) = m at h1 h2 h3
    by_cases c : x < z
    · rw [if_pos c] at h1 h2
      refine ⟨.inr ?_, by omega, fun y hy => ?_⟩
      · rcases h1 with h | h
        · rw [h]; exact List.mem_cons_self
        · exact List.mem_cons_of_mem _ h
      · rcases List.mem_cons.mp hy with rfl | hy
        · exact h2
        · exact h3 y hy
    · rw [if_neg c] at h1 h2
      refine ⟨?_, h2, fun y hy => ?_⟩
      · rcases h1 with h | h
        · exact .inl h
        · exact .inr (List.mem_cons_of_mem _ h)
      · rcases List.mem_cons.mp hy with rfl | hy
        · omega
        · exact h3 y hy
theorem top_mem {xs : List Int} (h : 0 < xs.length) : topR xs ∈ xs := by
  cases xs with
  | nil => exact absurd h (Nat.lt_irrefl _)
  | cons x xs =>
    rcases (topF xs x).1 with e | e
    · exact List.mem_cons.mpr (.inl e)
    · exact List.mem_cons_of_mem _ e
theorem top_le {xs : List Int} : ∀ y ∈ xs, y ≤ topR xs := by
  cases xs with
  | nil => exact fun y hy => (nomatch hy)
  | cons x xs =>
    intro y hy
    rcases List.mem_cons.mp hy with rfl | hy
    · exact (topF xs y).2.1
    · exact (topF xs x).2.2 y hy
theorem top_is {xs : List Int} {m : Int} (h : m ∈ xs) (hm : ∀ y ∈ xs, y ≤ m) : m = topR xs := by
  have h1 := top_le m h
  have h2 := hm _ (top_mem (List.length_pos_of_mem h))
  omega
/-- how few calls bring a group at one -/
def fewR (f : List Str → Int) (ms : List Str) : Int := topR ((partingsR ms).map (boundG f ms))
theorem BestP.few {f : List Str → Int} {ms : List Str} {P : List (List Str)} (a : BestP f ms P) : boundG f ms P = fewR f ms := by
  refine top_is (List.mem_map_of_mem a.mem) fun y hy => ?_
  obtain ⟨P', mP, rfl⟩ := List.mem_map.mp hy
  exact a.le mP
theorem few_le {f : List Str → Int} {ms : List Str} {P : List (List Str)} (h : P ∈ partingsR ms) : boundG f ms P ≤ fewR f ms := top_le _ (List.mem_map_of_mem h)
/-! ### one hand and the others -/
end OC
set_option Elab.async false
set_option linter.all false
set_option maxRecDepth 100000
set_option maxHeartbeats 4000000
/-! what is wanted from each part of a group -/
namespace OC
open PySem PySem.Spec PyProof.Rows L2 PySem.W
/-! ### lists that rise -/
/-! ### the lesser parts -/
/-! ### lists of pairs (part, number) in the heap -/
inductive WAll (H : Hp) : List V → List (List Str × Int) → Prop
  | nil : WAll H [] []
  | cons {t b : Addr} {x : List Str × Int} {ws : List V} {xs : List (List Str × Int)} : H t = some (.tup [.ref b, .int x.2]) → H b = some (.tup (x.1.map V.str)) → WAll H ws xs → WAll H (.ref t :: ws) (x :: xs)
section
variable {H H' : Hp}
theorem WAll.same (s : Same H H') : ∀ {ws : List V} {xs : List (List Str × Int)}, WAll H ws xs → WAll H' ws xs
  | _, _, .nil => .nil
  | _, _, .cons h1 h2 t => .cons (s _ _ h1) (s _ _ h2) (t.same s)
theorem WAll.tk (s : ∀ a xs, H a = some (.tup xs) → H' a = some (.tup xs)) : ∀ {ws : List V} {xs : List (List Str × Int)}, WAll H ws xs → WAll H' ws xs
  | _, _, .nil => .nil
  | _, _, .cons h1 h2 t => .cons (s _ _ h1) (s _ _ h2) (t.tk s)
theorem WAll.app : ∀ {ws us : List V} {xs ys : List (List Str × Int)}, WAll H ws xs → WAll H us ys → WAll H (ws ++ us) (xs ++ ys)
  | _, _, _, _, .nil, h => h
  | _, _, _, _, .cons h1 h2 t, g => .cons h1 h2 (t.app g)
theorem WAll.len : ∀ {ws : List V} {xs : List (List Str × Int)}, WAll H ws xs → ws.length = xs.length
  | _, _, .nil => rfl
  | _, _, .cons _ _ t => by rw [List.length_cons, List.length_cons, t.len]
theorem WAll.get : ∀ {ws : List V} {xs : List (List Str × Int)} {i : Nat} {v : V}, WAll H ws xs → ws[i]? = some v → ∃ t b x, v = .ref t ∧ xs[i]? = some x ∧ H t = some (.tup [.ref b, .int x.2]) ∧ H b = some (.tup (x.1.map V.str))
  | _, _, _, _, .nil, e => by simp at e
  | _, _, 0, _, .cons (t := t) (b := b) (x := x) h1 h2 _, e => by
    cases e
    exact ⟨t, b, x, rfl, rfl, h1, h2⟩
  | _, _, i + 1, v, .cons _ _ t, e => t.get (i := i) (v := v) e
theorem WAll.mut {D : Addr} {zs ys : List V} (e : H D = some (.lst zs)) {ws : List V} {xs : List (List Str × Int)} (h : WAll H ws xs) : WAll (upd H D (.lst ys)) ws xs := h.tk fun a u q => by
  rw [upd_ne (fun z => by
    rw [z, e] at q
    cases q)]
  exact q
end
end OC
set_option Elab.async false
set_option linter.all false
set_option maxRecDepth 100000
set_option maxHeartbeats 4000000
/-! numbers for each of a group: all that come to a total, the greatest first -/
set_option Elab.async false
set_option linter.all false
set_option maxRecDepth 100000
set_option maxHeartbeats 4000000
/-! numbers that come to the greatest bound of a parting and leave none wanting: there are some -/
set_option Elab.async false
set_option linter.all false
set_option maxRecDepth 100000
set_option maxHeartbeats 4000000
/-! the least sum of calls: numbers for each that leave none wanting -/
set_option Elab.async false
set_option linter.all false
set_option maxRecDepth 100000
set_option maxHeartbeats 4000000
/-! numbers that leave none wanting come to the greatest bound of a parting at least -/
set_option Elab.async false
set_option linter.all false
set_option maxRecDepth 100000
set_option maxHeartbeats 4000000
/-! the least sum of calls: at most what the group knows; with one call less some part wants -/
set_option Elab.async false
set_option linter.all false
set_option maxRecDepth 100000
set_option maxHeartbeats 4000000
/-! calls that a group makes: what is known behind a call, and how few are left -/
namespace OC
open PySem PySem.Spec PyProof.Rows L2 PySem.W
theorem InR.sub {p : Int} {rs ts : List (List Int)} {r : List Int} (h : ∀ x ∈ rs, x ∈ ts) (hr : InR p rs r) : InR p ts r := InR.mono (fun x hx => InR.mem (h x hx)) hr
section
variable {p : Int} {n : Nat} {kn : List (List Int)} {hs : List (Str × List (List Int))} {row : List Int}
/-- the hands behind a call -/
def heardH (p : Int) (n : Nat) (row : List Int) (hs : List (Str × List (List Int))) : List (Str × List (List Int)) := hs.map fun h => (h.1, plainR p n (h.2 ++ [row]))
theorem heard_names : (heardH p n row hs).map Prod.fst = hs.map Prod.fst := by
  unfold heardH
  rw [List.map_map]
  rfl
theorem Stand5.heard (S : Stand5 p n kn hs) (hr : RowsOk p n [row]) : Stand5 p n (plainR p n (kn ++ [row])) (heardH p n row hs) where
  fld := S.fld
  p1 := S.p1
  n1 := S.n1
  n8 := S.n8
  pk := PFR.of_plain S.fld (rowsOk_app S.pk.1 hr)
  ph := fun h hh => by
    obtain ⟨x, mx, rfl⟩ := List.mem_map.mp hh
    exact PFR.of_plain S.fld (rowsOk_app (S.ph x mx).1 hr)
  inn := fun h hh r mr => by
    obtain ⟨x, mx, rfl⟩ := List.mem_map.mp hh
    refine (InR.plain S.fld (rowsOk_app (S.ph x mx).1 hr)).mpr ?_
    refine InR.mono (fun z hz => ?_) ((InR.plain S.fld (rowsOk_app S.pk.1 hr)).mp (InR.mem mr))
    rcases List.mem_append.mp hz with hz | hz
    · exact InR.sub (fun y hy => List.mem_append_left _ hy) (S.inn x mx z hz)
    · exact InR.mem (List.mem_append_right _ hz)
  few := by
    unfold heardH
    rw [List.length_map]
    exact S.few
  many := by
    unfold heardH
    rw [List.length_map]
    exact S.many
  srt := by
    rw [heard_names]
    exact S.srt
  nd := by
    rw [heard_names]
    exact S.nd
  nm := by
    rw [heard_names]
    exact S.nm
theorem room_heard (S : Stand5 p n kn hs) (hr : RowsOk p n [row]) (q : List Str) : roomR p n (plainR p n (kn ++ [row])) (heardH p n row hs) q = plainR p n (roomR p n kn hs q ++ [row]) := by
  have F := S.fld
  have S' := S.heard hr
  have oq := room_rows S q
  have ok1 := rowsOk_app S.pk.1 hr
  have up : ∀ z, InR p (kn ++ selR q hs) z → InR p (roomR p n kn hs q ++ [row]) z := fun z hz => InR.sub (fun y hy => List.mem_append_left _ hy) ((InR.plain F oq).mpr hz)
  refine plain_same F (room_rows S' q) (rowsOk_app (room_pf S q).1 hr) (fun r mr => ?_) (fun r mr => ?_)
  · rcases List.mem_append.mp mr with mr | mr
    · refine InR.mono (fun z hz => ?_) ((InR.plain F ok1).mp (InR.mem mr))
      rcases List.mem_append.mp hz with hz | hz
      · exact up z (InR.mem (List.mem_append_left _ hz))
      · exact InR.mem (List.mem_append_right _ hz)
    · obtain ⟨x, mx, a, b⟩ := sel_mem mr
      obtain ⟨y, my, rfl⟩ := List.mem_map.mp mx
      refine InR.mono (fun z hz => ?_) ((InR.plain F (rowsOk_app (S.ph y my).1 hr)).mp (InR.mem b))
      rcases List.mem_append.mp hz with hz | hz
      · exact up z (InR.mem (List.mem_append_right _ (mem_sel my a hz)))
      · exact InR.mem (List.mem_append_right _ hz)
  · have lk : ∀ z, InR p (kn ++ [row]) z → InR p (plainR p n (kn ++ [row]) ++ selR q (heardH p n row hs)) z := fun z hz => InR.sub (fun y hy => List.mem_append_left _ hy) ((InR.plain F ok1).mpr hz)
    rcases List.mem_append.mp mr with mr | mr
    · refine InR.mono (fun z hz => ?_) ((InR.plain F oq).mp (InR.mem mr))
      rcases List.mem_append.mp hz with hz | hz
      · exact lk z (InR.mem (List.mem_append_left _ hz))
      · obtain ⟨y, my, a, b⟩ := sel_mem hz
        refine InR.sub (fun u hu => List.mem_append_right _ (mem_sel (h := (y.1, plainR p n (y.2 ++ [row]))) (List.mem_map_of_mem my) a hu)) ((InR.plain F (rowsOk_app (S.ph y my).1 hr)).mpr (InR.mem (List.mem_append_left _ b)))
    · exact lk r (InR.mem (List.mem_append_right _ mr))
theorem has_room (S : Stand5 p n kn hs) (hr : RowsOk p n [row]) (q : List Str) : hasR p n (roomR p n kn hs q) row = true ↔ InR p (kn ++ selR q hs) row := hasR_plain S.fld (room_rows S q) hr
theorem has_more (S : Stand5 p n kn hs) (hr : RowsOk p n [row]) {q q' : List Str} (h : ∀ x ∈ q, x ∈ q') (e : hasR p n (roomR p n kn hs q) row = true) : hasR p n (roomR p n kn hs q') row = true := by
  rw [has_room S hr] at e ⊢
  refine InR.sub (fun z hz => ?_) e
  rcases List.mem_append.mp hz with hz | hz
  · exact List.mem_append_left _ hz
  · obtain ⟨y, my, a, b⟩ := sel_mem hz
    exact List.mem_append_right _ (mem_sel my (h _ a) b)
/-- how much is known behind a call -/
theorem size_heard (S : Stand5 p n kn hs) (hr : RowsOk p n [row]) (q : List Str) : sizeR p n (plainR p n (kn ++ [row])) (heardH p n row hs) q = sizeR p n kn hs q + (if hasR p n (roomR p n kn hs q) row = true then 0 else 1) - (if hasR p n kn row = true then 0 else 1) := by
  show ((roomR p n (plainR p n (kn ++ [row])) (heardH p n row hs) q).length : Int) - _ = ((roomR p n kn hs q).length : Int) - (kn.length : Int) + _ - _
  rw [room_heard S hr, plain_one_more S.fld (room_pf S q).1 hr, plain_one_more S.fld S.pk.1 hr, (room_pf S q).2, S.pk.2]
  cases hasR p n (roomR p n kn hs q) row <;> cases hasR p n kn row <;> simp <;> omega
end
/-! ### numbers behind a call -/
end OC
set_option Elab.async false
set_option linter.all false
set_option maxRecDepth 100000
set_option maxHeartbeats 4000000
/-! a call behind which the numbers, one less, leave none wanting -/
set_option Elab.async false
set_option linter.all false
set_option maxRecDepth 100000
set_option maxHeartbeats 4000000
/-! defs with one keyword-only parameter that is None where it is not written -/
namespace OC
open PySem PySem.Spec PyProof.Rows L2
structure DfD (K : PySem.W.Frag) (mg : Str → Option Value) (x : Str) (st : Stmt) (ps : List Str) (dvs : List V) : Prop where
  ex : ∃ (f : Addr) (fd : FuncData) (ds : List Value), Fun K x x st f fd ∧ Vals dvs ds ∧ Binds K fd ps ds ∧ mg x = some (.ref f)
structure OkD (P : Program) (w : World) (K : PySem.W.Frag) (mg : Str → Option Value) (base : Heap) (k : Nat) (x : Str) (ps : List Str) (dvs : List V) (sp : Sp) : Prop where
  ex : ∃ (f : Addr) (fd : FuncData) (ds : List Value), FnOk P w K mg base CX0 k f fd ps sp ∧ mg x = some (.ref f) ∧ PySem.W.keepIn K (.ref f) = true ∧ Vals dvs ds ∧ Binds K fd ps ds
section
variable {P : Program} {w : World} {K : PySem.W.Frag} {mg : Str → Option Value} {base : Heap}
theorem DfD.ok {x : Str} {st : Stmt} {N ps : List Str} {dvs : List V} {k : Nat} {sp : Sp} (D : DfD K mg x st ps dvs) (S : FnScope N ps (defScope st)) (len : ∀ vs H Q E, sp vs H Q E → vs.length = ps.length)
    (hbody : ∀ (f : Addr) (cdv : Value) (A : Around) (outer : List Env) (s : Shared) (H : Hp) (vs : List V) (Q : VK) (E : XK), Room k (A.deeper (envOfC x (defScope st) s.heap.objs.size f cdv)) → sp vs H Q E →
      ∃ t, PSs (cxOf CX0 P w K mg base N x (defScope st) f cdv A outer s H E).nox (defBody st) t ∧ t { nx := fun _ H' => Q .non H', rt := Q } (start N vs) H) : OkD P w K mg base (k + 1) x ps dvs sp := by
  obtain ⟨f, fd, ds, F, v, b, g⟩ := D.ex
  exact ⟨f, fd, ds, F.ok S len (hbody f), g, F.kp, v, b⟩
theorem OkD.mono {x : Str} {ps : List Str} {dvs : List V} {j k : Nat} {sp : Sp} (O : OkD P w K mg base j x ps dvs sp) (h : j ≤ k) : OkD P w K mg base k x ps dvs sp := by
  obtain ⟨f, fd, ds, F, r⟩ := O.ex
  exact ⟨f, fd, ds, F.mono h, r⟩
end
end OC
set_option Elab.async false
set_option linter.all false
set_option maxRecDepth 100000
set_option maxHeartbeats 4000000
/-! calls one behind another -/
namespace OC
open PySem PySem.Spec PyProof.Rows L2 PySem.W
/-! ### behind some calls -/
def kAft (p : Int) (n : Nat) (kn : List (List Int)) (cs : List (Str × List Int)) : List (List Int) := cs.foldl (fun k c => plainR p n (k ++ [c.2])) kn
def hAft (p : Int) (n : Nat) (hs : List (Str × List (List Int))) (cs : List (Str × List Int)) : List (Str × List (List Int)) := cs.foldl (fun h c => heardH p n c.2 h) hs
theorem kAft_snoc {p : Int} {n : Nat} {kn : List (List Int)} {cs : List (Str × List Int)} {c : Str × List Int} : kAft p n kn (cs ++ [c]) = plainR p n (kAft p n kn cs ++ [c.2]) := by
  unfold kAft
  rw [List.foldl_append]
  rfl
theorem hAft_snoc {p : Int} {n : Nat} {hs : List (Str × List (List Int))} {cs : List (Str × List Int)} {c : Str × List Int} : hAft p n hs (cs ++ [c]) = heardH p n c.2 (hAft p n hs cs) := by
  unfold hAft
  rw [List.foldl_append]
  rfl
/-- how much is known behind some calls -/
def sAft (p : Int) (n : Nat) (kn : List (List Int)) (hs : List (Str × List (List Int))) (cs : List (Str × List Int)) : List Str → Int := sizeR p n (kAft p n kn cs) (hAft p n hs cs)
/-- calls of the group, each known to its hand behind those ahead, each leaves one call less -/
def StepsR (p : Int) (n : Nat) (kn : List (List Int)) (hs : List (Str × List (List Int))) (ms : List Str) (cs : List (Str × List Int)) : Prop := ∀ i x r, cs[i]? = some (x, r) →
  x ∈ ms ∧ RowsOk p n [r] ∧ hasR p n (roomR p n (kAft p n kn (cs.take i)) (hAft p n hs (cs.take i)) [x]) r = true ∧ fewR (sAft p n kn hs (cs.take (i + 1))) ms = fewR (sAft p n kn hs (cs.take i)) ms - 1
/-- a plan -/
structure PlanR (p : Int) (n : Nat) (kn : List (List Int)) (hs : List (Str × List (List Int))) (ms : List Str) (cs : List (Str × List Int)) : Prop where
  steps : StepsR p n kn hs ms cs
  len : (cs.length : Int) = fewR (sizeR p n kn hs) ms
  zero : fewR (sAft p n kn hs cs) ms = 0
/-! ### the callers one behind another -/
end OC
set_option Elab.async false
set_option linter.all false
set_option maxRecDepth 100000
set_option maxHeartbeats 4000000
/-! plans that hold; no plan is shorter -/
namespace OC
open PySem PySem.Spec PyProof.Rows L2 PySem.W
section
variable {p : Int} {n : Nat} {kn : List (List Int)} {hs : List (Str × List (List Int))} {ms : List Str} {y : Str} {row : List Int}
/-- a call that leaves one less is new to the listener -/
theorem call_new (S : Stand5 p n kn hs) (ok : RowsOk p n [row]) (few : fewR (sizeR p n (plainR p n (kn ++ [row])) (heardH p n row hs)) ms = fewR (sizeR p n kn hs) ms - 1) : hasR p n kn row = false := by
  cases e : hasR p n kn row with
  | false => rfl
  | true =>
    have : sizeR p n (plainR p n (kn ++ [row])) (heardH p n row hs) = sizeR p n kn hs := funext fun q => by
      rw [size_heard S ok q, if_pos e, if_pos (has_more S ok (q := []) (q' := q) (fun x hx => (nomatch hx)) (by rw [room_nil S]; exact e))]
      omega
    rw [this] at few
    omega
theorem size_call (S : Stand5 p n kn hs) (ok : RowsOk p n [row]) (my : y ∈ ms) (own : hasR p n (roomR p n kn hs [y]) row = true) (nw : hasR p n kn row = false) : sizeR p n (plainR p n (kn ++ [row])) (heardH p n row hs) ms = sizeR p n kn hs ms - 1 := by
  rw [size_heard S ok ms, nw, if_pos (has_more S ok (q := [y]) (fun x hx => by rw [List.mem_singleton.mp hx]; exact my) own)]
  simp
/-- a parting's bound falls by one at most -/
theorem bound_fall (S : Stand5 p n kn hs) (ok : RowsOk p n [row]) (my : y ∈ ms) (own : hasR p n (roomR p n kn hs [y]) row = true) (nw : hasR p n kn row = false) {P : List (List Str)} (mP : P ∈ partingsR ms) : boundG (sizeR p n kn hs) ms P - 1 ≤ boundG (sizeR p n (plainR p n (kn ++ [row])) (heardH p n row hs)) ms P := by
  have gt := (partings_mem.mp mP).2
  have os := splits_ok (partings_mem.mp mP).1
  have hm := size_call S ok my own nw
  have le : ∀ q : List Str, sizeR p n (plainR p n (kn ++ [row])) (heardH p n row hs) q ≤ sizeR p n kn hs q := fun q => by
    rw [size_heard S ok q, nw]
    split <;> simp
    omega
  have sum : ∀ Q : List (List Str), (Q.map (sizeR p n (plainR p n (kn ++ [row])) (heardH p n row hs))).sum ≤ (Q.map (sizeR p n kn hs)).sum ∧ ((∃ q ∈ Q, y ∈ q) → (Q.map (sizeR p n (plainR p n (kn ++ [row])) (heardH p n row hs))).sum ≤ (Q.map (sizeR p n kn hs)).sum - 1) := fun Q => by
    induction Q with
    | nil => exact ⟨Int.le_refl _, fun ⟨q, hq, _⟩ => (nomatch hq)⟩
    | cons a Q ih =>
      have la := le a
      simp only [List.map_cons, List.sum_cons]
      refine ⟨by omega, fun ⟨q, hq, yq⟩ => ?_⟩
      rcases List.mem_cons.mp hq with rfl | hq
      · have := size_call (ms := q) S ok yq own nw
        omega
      · have := ih.2 ⟨q, hq, yq⟩
        omega
  have sP := (sum P).2 (by
    have := os.pm.mem_iff.mpr my
    obtain ⟨q, hq, yq⟩ := List.mem_flatten.mp this
    exact ⟨q, hq, yq⟩)
  unfold boundG boundOf
  rw [List.length_map, List.length_map, hm]
  have := Int.ediv_le_ediv (show (0 : Int) < (P.length : Int) - 1 by omega) (show (P.map (sizeR p n (plainR p n (kn ++ [row])) (heardH p n row hs))).sum - (sizeR p n kn hs ms - 1) ≤ (P.map (sizeR p n kn hs)).sum - sizeR p n kn hs ms by omega)
  omega
end
section
variable {p : Int} {n : Nat} {kn : List (List Int)} {hs : List (Str × List (List Int))} {ms : List Str} {cs : List (Str × List Int)}
theorem take_snoc {i : Nat} {c : Str × List Int} (g : cs[i]? = some c) : cs.take (i + 1) = cs.take i ++ [c] := by
  rw [List.take_add_one, g]
  rfl
/-- what is told behind the first so many calls of a plan -/
structure AtR (p : Int) (n : Nat) (kn : List (List Int)) (hs : List (Str × List (List Int))) (ms : List Str) (cs : List (Str × List Int)) (i : Nat) : Prop where
  ok : Stand5 p n (kAft p n kn (cs.take i)) (hAft p n hs (cs.take i))
  few : fewR (sAft p n kn hs (cs.take i)) ms = (cs.length : Int) - i
  all : sAft p n kn hs (cs.take i) ms = sizeR p n kn hs ms - i
  bd : ∀ P ∈ partingsR ms, boundG (sizeR p n kn hs) ms P = fewR (sizeR p n kn hs) ms → boundG (sAft p n kn hs (cs.take i)) ms P = (cs.length : Int) - i
theorem PlanR.at (S : Stand5 p n kn hs) (h : PlanR p n kn hs ms cs) : ∀ i, i ≤ cs.length → AtR p n kn hs ms cs i
  | 0, _ => ⟨S, by
      show fewR (sizeR p n kn hs) ms = _
      rw [← h.len]
      omega, by
      show sizeR p n kn hs ms = _
      omega, fun P mP e => by
      show boundG (sizeR p n kn hs) ms P = _
      rw [e, ← h.len]
      omega⟩
  | i + 1, hi => by
    have ih := h.at S i (by omega)
    obtain ⟨x, r, g⟩ : ∃ x r, cs[i]? = some (x, r) := ⟨_, _, List.getElem?_eq_getElem (by omega)⟩
    obtain ⟨mx, ok, own, few⟩ := h.steps i x r g
    have e : sAft p n kn hs (cs.take (i + 1)) = sizeR p n (plainR p n (kAft p n kn (cs.take i) ++ [r])) (heardH p n r (hAft p n hs (cs.take i))) := by
      unfold sAft
      rw [take_snoc g, kAft_snoc, hAft_snoc]
    have e0 : sAft p n kn hs (cs.take i) = sizeR p n (kAft p n kn (cs.take i)) (hAft p n hs (cs.take i)) := rfl
    have f1 := ih.few
    have f2 := ih.all
    rw [e, e0] at few
    rw [e0] at f1 f2
    have nw := call_new ih.ok ok few
    have sz := size_call ih.ok ok mx own nw
    refine ⟨?_, ?_, ?_, fun P mP eP => ?_⟩
    · rw [take_snoc g, kAft_snoc, hAft_snoc]
      exact ih.ok.heard ok
    · rw [e, few]
      omega
    · rw [e, sz]
      omega
    · have b := ih.bd P mP eP
      rw [e0] at b
      have c := bound_fall ih.ok ok mx own nw mP
      have d := few_le (f := sAft p n kn hs (cs.take (i + 1))) mP
      rw [e] at d ⊢
      omega
end
end OC
set_option Elab.async false
set_option linter.all false
/-! texts sorted: a sorted choice of them is a part in their order -/
namespace OC
open PySem PySem.Spec PyProof.Rows L2
theorem pw_rising : ∀ (l : List Str) (p : Str), risingS p l = true → (p :: l).Pairwise (fun a b => a.cps.toList ≤ b.cps.toList)
  | [], p, _ => List.pairwise_singleton _ _
  | x :: r, p, h => by
    unfold risingS at h
    rw [Bool.and_eq_true, ltCps_eq] at h
    have h1 : p.cps.toList ≤ x.cps.toList := List.not_lt.mp (by simpa using h.1)
    have ih := pw_rising r x h.2
    refine List.pairwise_cons.mpr ⟨fun y hy => ?_, ih⟩
    rcases List.mem_cons.mp hy with rfl | hy
    · exact h1
    · exact List.le_trans h1 ((List.pairwise_cons.mp ih).1 y hy)
theorem pw_sorted : ∀ (l : List Str), sortedS l = true → l.Pairwise (fun a b => a.cps.toList ≤ b.cps.toList)
  | [], _ => .nil
  | x :: r, h => pw_rising r x h
end OC
set_option Elab.async false
set_option linter.all false
set_option maxRecDepth 100000
set_option maxHeartbeats 4000000
/-! defs whose keyword-only parameter is written; t.count(x) of a tuple of texts -/
namespace OC
open PySem PySem.Spec PyProof.Rows L2
structure OkK (P : Program) (w : World) (K : PySem.W.Frag) (mg : Str → Option Value) (base : Heap) (k : Nat) (x : Str) (ps : List Str) (n : Nat) (ks : List Str) (sp : Sp) : Prop where
  ex : ∃ (f : Addr) (fd : FuncData), FnOk P w K mg base CX0 k f fd ps sp ∧ mg x = some (.ref f) ∧ PySem.W.keepIn K (.ref f) = true ∧ KBn K fd ps n ks (fun us ws => us ++ ws) (fun vs zs => vs ++ zs)
section
variable {P : Program} {w : World} {K : PySem.W.Frag} {mg : Str → Option Value} {base : Heap}
theorem DfD.okK {x : Str} {st : Stmt} {N ps : List Str} {dvs : List V} {k n : Nat} {ks : List Str} {sp : Sp} (D : DfD K mg x st ps dvs) (S : FnScope N ps (defScope st)) (len : ∀ vs H Q E, sp vs H Q E → vs.length = ps.length)
    (hb : ∀ (kV doc pm : Value) (an : Option Addr) (cdv ct : Value) (us ws : List Value), us.length = n → ws.length = ks.length → bindArgs (PySem.W.fnOf x x (defArgs st) (defBody st) (defScope st) .none kV doc pm an cdv ct) ⟨us, ks.zip ws⟩ = pure (ps.zip (us ++ ws)))
    (hbody : ∀ (f : Addr) (cdv : Value) (A : Around) (outer : List Env) (s : Shared) (H : Hp) (vs : List V) (Q : VK) (E : XK), Room k (A.deeper (envOfC x (defScope st) s.heap.objs.size f cdv)) → sp vs H Q E →
      ∃ t, PSs (cxOf CX0 P w K mg base N x (defScope st) f cdv A outer s H E).nox (defBody st) t ∧ t { nx := fun _ H' => Q .non H', rt := Q } (start N vs) H) : OkK P w K mg base (k + 1) x ps n ks sp := by
  obtain ⟨f, fd, ds, F, v, b, g⟩ := D.ex
  refine ⟨f, fd, F.ok S len (hbody f), g, F.kp, ⟨fun s us ws X l1 l2 => ?_, fun r1 r2 => r1.append r2⟩⟩
  obtain ⟨oc, od, kV, doc, pm, an, cdv, ct, osl, rfl, lk, hcd⟩ := F.ex
  exact .of_eq (hb kV doc pm an cdv ct us ws l1 l2)
theorem OkK.mono {x : Str} {ps : List Str} {n : Nat} {ks : List Str} {j k : Nat} {sp : Sp} (O : OkK P w K mg base j x ps n ks sp) (h : j ≤ k) : OkK P w K mg base k x ps n ks sp := by
  obtain ⟨f, fd, F, r⟩ := O.ex
  exact ⟨f, fd, F.mono h, r⟩
end
/-! ### t.count(x) -/
end OC
set_option Elab.async false
set_option linter.all false
/-! three hands: their partings in order, the least numbers of calls -/
set_option Elab.async false
set_option linter.all false
/-! numbers of calls pushed along a map of names: the least number of calls of a group and of its image -/
namespace OC
open PySem PySem.Spec PyProof.Rows L2
/-! ### a hand twice -/
section
variable {p : Int} {n : Nat} {kn : List (List Int)} {hs hg : List (Str × List (List Int))} {own fr : Str}
/-- hands and, besides, one hand's room under a further name -/
def CopyOf (hs hg : List (Str × List (List Int))) (own fr : Str) : Prop := ∀ (x : Str) (room : List (List Int)), (x, room) ∈ hg ↔ (x, room) ∈ hs ∨ (x = fr ∧ (own, room) ∈ hs)
theorem CopyOf.heard (C : CopyOf hs hg own fr) (row : List Int) : CopyOf (heardH p n row hs) (heardH p n row hg) own fr := fun x room => by
  unfold heardH
  constructor
  · intro h
    obtain ⟨⟨y, r⟩, m, e⟩ := List.mem_map.mp h
    cases e
    rcases (C y r).mp m with m | ⟨rfl, m⟩
    · exact .inl (List.mem_map.mpr ⟨(y, r), m, rfl⟩)
    · exact .inr ⟨rfl, List.mem_map.mpr ⟨(own, r), m, rfl⟩⟩
  · rintro (h | ⟨rfl, h⟩)
    · obtain ⟨⟨y, r⟩, m, e⟩ := List.mem_map.mp h
      cases e
      exact List.mem_map.mpr ⟨(y, r), (C y r).mpr (.inl m), rfl⟩
    · obtain ⟨⟨y, r⟩, m, e⟩ := List.mem_map.mp h
      cases e
      exact List.mem_map.mpr ⟨(x, r), (C x r).mpr (.inr ⟨rfl, m⟩), rfl⟩
end
end OC
set_option Elab.async false
set_option linter.all false
/-! hands sorted: their names rise -/
set_option Elab.async false
set_option linter.all false
set_option maxRecDepth 100000
set_option maxHeartbeats 4000000
/-! any thing == a text; any thing in a tuple of texts; t != () -/
namespace OC
open PySem PySem.Spec PyProof.Rows L2
open PySem.SeqAt
/-- of a known kind -/
inductive AnyT (K : PySem.W.Frag) (H : Hp) : V → Prop
  | non : AnyT K H .non
  | bl (b : Bool) : AnyT K H (.bl b)
  | int (i : Int) : AnyT K H (.int i)
  | str (x : Str) : AnyT K H (.str x)
  | lst {a : Addr} {xs : List V} : SqL K H a xs → AnyT K H (.ref a)
  | tup {a : Addr} {xs : List V} : SqT K H a xs → AnyT K H (.ref a)
  | dct {a : Addr} {kvs : List (L2.Key × V)} : H a = some (.dK kvs) → AnyT K H (.ref a)
theorem Rep.any {K : PySem.W.Frag} {H : Hp} {bad : Addr → Prop} {v : V} {d : PyData} (r : Rep K H bad v d) : AnyT K H v := by
  cases r with
  | non => exact .non
  | bl b => exact .bl b
  | int i => exact .int i
  | str x => exact .str x
  | lst h _ _ => exact .lst (.inl (.inl h))
  | tup h _ => exact .tup h
  | dct h _ => exact .dct h
end OC
set_option Elab.async false
set_option linter.all false
set_option maxRecDepth 100000
set_option maxHeartbeats 4000000
/-! things that nest, with weights -/
namespace OC
open PySem PySem.Spec PyProof.Rows L2
mutual
/-- numbers to 10 ^ 29 and g, no more than g items, signs that repr shows, no dict but the empty one -/
def nz (g : Nat) : PyData → Bool
  | .none => true
  | .bool _ => true
  | .int i => decide (i.natAbs ≤ 10 ^ 29 + g)
  | .str x => x.cps.toList.all fun c => decide (c < 1000000)
  | .list ds => decide (ds.length ≤ g) && nzAll g ds
  | .tuple ds => decide (ds.length ≤ g) && nzAll g ds
  | .dict ds => ds.isEmpty
def nzAll (g : Nat) : List PyData → Bool
  | [] => true
  | d :: ds => nz g d && nzAll g ds
end
mutual
/-- no less than the signs of repr -/
def wt : PyData → Nat
  | .none => 50
  | .bool _ => 50
  | .int _ => 50
  | .str x => 10 * x.length + 50
  | .list ds => wtAll ds + 50
  | .tuple ds => wtAll ds + 50
  | .dict _ => 50
def wtAll : List PyData → Nat
  | [] => 0
  | d :: ds => wt d + 2 + wtAll ds
end
theorem nzAll_iff {g : Nat} : ∀ {ds : List PyData}, nzAll g ds = true ↔ ∀ d ∈ ds, nz g d = true
  | [] => by simp [nzAll]
  | d :: ds => by simp only [nzAll, Bool.and_eq_true, nzAll_iff (ds := ds), List.forall_mem_cons]
theorem str_shown (x : Str) (h : (x.cps.toList.all fun c => decide (c < 1000000)) = true) : (PyData.str x).shown.length ≤ 10 * x.length + 2 := by
  simp only [PyData.shown]
  exact PySem.StrLaws.reprText_len x fun c hc => Nat.lt_of_lt_of_le (of_decide_eq_true (List.all_eq_true.mp h c hc)) (by decide)
mutual
theorem nz_fit {g : Nat} (hg : g ≤ 10 ^ 30) : ∀ (d : PyData), nz g d = true → d.shown.length ≤ wt d ∧ d.showable = true
  | .none, _ => ⟨by decide +kernel, by decide +kernel⟩
  | .bool b, _ => by cases b <;> exact ⟨by decide +kernel, by decide +kernel⟩
  | .int i, h => by
    have := fit_int (i := i) (Nat.lt_of_le_of_lt (of_decide_eq_true (by simpa only [nz] using h)) (by omega))
    exact ⟨this.len, this.sh⟩
  | .str x, h => ⟨by rw [wt]; exact Nat.le_trans (str_shown x (by simpa only [nz] using h)) (by omega), by simp [PyData.showable]⟩
  | .list ds, h => by
    obtain ⟨h1, h2⟩ := nz_fitAll hg ds (by simp only [nz, Bool.and_eq_true] at h; exact h.2)
    refine ⟨?_, by simp only [PyData.showable]; exact h2⟩
    simp only [PyData.shown]
    refine Nat.le_trans (listText_len_le _) ?_
    rw [shownAll_map, List.length_map, wt]
    have := h1
    omega
  | .tuple ds, h => by
    obtain ⟨h1, h2⟩ := nz_fitAll hg ds (by simp only [nz, Bool.and_eq_true] at h; exact h.2)
    refine ⟨?_, by simp only [PyData.showable]; exact h2⟩
    simp only [PyData.shown]
    refine Nat.le_trans (tupleText_len_le _) ?_
    rw [shownAll_map, List.length_map, wt]
    have := h1
    omega
  | .dict ds, h => by
    cases ds with
    | nil => exact ⟨by decide +kernel, by decide +kernel⟩
    | cons a b => simp [nz] at h
theorem nz_fitAll {g : Nat} (hg : g ≤ 10 ^ 30) : ∀ (ds : List PyData), nzAll g ds = true → ((ds.map PyData.shown).map (·.length)).sum + 2 * ds.length ≤ wtAll ds ∧ PyData.showableAll ds = true
  | [], _ => ⟨by simp [wtAll], by simp [PyData.showableAll]⟩
  | d :: ds, h => by
    have h' : nz g d = true ∧ nzAll g ds = true := by simpa [nzAll] using h
    obtain ⟨a1, a2⟩ := nz_fit hg d h'.1
    obtain ⟨b1, b2⟩ := nz_fitAll hg ds h'.2
    refine ⟨?_, by simp [PyData.showableAll, a2, b2]⟩
    rw [List.map_cons, List.map_cons, List.sum_cons, List.length_cons, wtAll]
    omega
end
/-- a thing's weight, depth and numbers -/
structure Thg (g B k : Nat) (d : PyData) : Prop where
  n : nz g d = true
  w : wt d ≤ B
  k : d.depth ≤ k
theorem Thg.fit {g B k : Nat} {d : PyData} (h : Thg g B k d) (hg : g ≤ 10 ^ 30) : FitZ B k d := by
  obtain ⟨h1, h2⟩ := nz_fit hg d h.n
  exact ⟨Nat.le_trans h1 h.w, h2, h.k⟩
mutual
theorem nz_mono {g g' : Nat} (hg : g ≤ g') : ∀ (d : PyData), nz g d = true → nz g' d = true
  | .none, _ => by simp [nz]
  | .bool _, _ => by simp [nz]
  | .int i, h => by
    have : i.natAbs ≤ 10 ^ 29 + g := by simpa only [nz, decide_eq_true_eq] using h
    simp only [nz]
    exact decide_eq_true (by omega)
  | .str x, h => by simpa [nz] using h
  | .list ds, h => by
    simp only [nz, Bool.and_eq_true, decide_eq_true_eq] at h ⊢
    exact ⟨Nat.le_trans h.1 hg, nzAll_mono hg ds h.2⟩
  | .tuple ds, h => by
    simp only [nz, Bool.and_eq_true, decide_eq_true_eq] at h ⊢
    exact ⟨Nat.le_trans h.1 hg, nzAll_mono hg ds h.2⟩
  | .dict ds, h => by simpa [nz] using h
theorem nzAll_mono {g g' : Nat} (hg : g ≤ g') : ∀ (ds : List PyData), nzAll g ds = true → nzAll g' ds = true
  | [], _ => by simp [nzAll]
  | d :: ds, h => by
    have h' : nz g d = true ∧ nzAll g ds = true := by simpa [nzAll] using h
    simp only [nzAll, Bool.and_eq_true]
    exact ⟨nz_mono hg d h'.1, nzAll_mono hg ds h'.2⟩
end
theorem Thg.mono {g g' B B' k k' : Nat} {d : PyData} (h : Thg g B k d) (hg : g ≤ g') (hB : B ≤ B') (hk : k ≤ k') : Thg g' B' k' d := ⟨nz_mono hg d h.n, Nat.le_trans h.w hB, Nat.le_trans h.k hk⟩
theorem depth_all {k : Nat} : ∀ {ds : List PyData}, PyData.depthAll ds ≤ k ↔ ∀ d ∈ ds, d.depth ≤ k
  | [] => by simp [PyData.depthAll]
  | d :: ds => by
    simp only [PyData.depthAll, List.forall_mem_cons, ← depth_all (ds := ds)]
    omega
theorem Thg.tup {g B k : Nat} {ds : List PyData} (h : Thg g B k (.tuple ds)) : (∀ d ∈ ds, nz g d = true) ∧ wtAll ds + 50 ≤ B ∧ ∃ k', k = k' + 1 ∧ ∀ d ∈ ds, d.depth ≤ k' := by
  refine ⟨nzAll_iff.mp (by have := h.n; simp only [nz, Bool.and_eq_true] at this; exact this.2), by have := h.w; rw [wt] at this; exact this, ?_⟩
  have := h.k
  simp only [PyData.depth] at this
  cases k with
  | zero => omega
  | succ k => exact ⟨k, rfl, depth_all.mp (by omega)⟩
end OC
set_option Elab.async false
set_option linter.all false
set_option maxRecDepth 100000
set_option maxHeartbeats 4000000
/-! rising things; partings and things that are none -/
namespace OC
open PySem PySem.W PySem.Spec PyProof.Rows L2
def rLtD (K : PySem.W.Frag) : R2 := fun x y H Q => ∃ d e, Dp K H x d ∧ Dp K H y e ∧ alike d e = true ∧ d ≠ .none ∧ d.depth ≤ 60 ∧ Q (.bl (dataLt d e)) H
theorem op_ltD {X : Cx} (hu : X.A.units + 64 < cLine) : OpR X (compareOp .Lt) (rLtD X.K) := by
  intro pins s σ H x y v u Q I rx ry h
  obtain ⟨d, e, hd, he, al, ne, dp, q⟩ := h
  obtain ⟨as, r1⟩ := Dp.reads I d x v hd rx
  obtain ⟨bs, r2⟩ := Dp.reads I e y u he ry
  exact lt_data r1 r2 al ne (by omega) ⟨.bl _, H, I, rfl, q⟩
/-- each less than the next -/
def risD (ds : List PyData) : Bool := (List.zipWith dataLt ds (ds.drop 1)).all id
theorem cut1 (xs : List V) : cutV xs (some 1) none = xs.drop 1 := by
  cases xs with
  | nil => unfold cutV; simp
  | cons x xs => exact cut_from (by decide) (by simp; omega)
end OC
set_option Elab.async false
set_option linter.all false
set_option maxRecDepth 100000
set_option maxHeartbeats 2000000
/-! classes of errors of one's own, by name; a caught one asked after; a def that catches what a lambda raises -/
namespace OC
open PySem PySem.Spec PyProof.Rows L2
/-- where the class of this name stands -/
def adr (mg : Str → Option Value) (x : Str) : Addr := match mg x with | some (.ref a) => a | _ => 0
theorem adr_of {mg : Str → Option Value} {x : Str} {C : Addr} (h : mg x = some (.ref C)) : adr mg x = C := by
  unfold adr
  rw [h]
end OC
namespace OC
open PySem PySem.Spec PyProof.Rows L2 LamX
section
variable {P : Program} {w : World} {K : PySem.W.Frag} {mg : Str → Option Value} {base : Heap}
/-- as DfC.ok, while no repr is under way -/
theorem DfC.okG {x : Str} {st : Stmt} {N ps : List Str} {k : Nat} {c : Addr} {sp : Sp} (D : DfC K mg x st ps c) (S : FnScope N ps (defScope st)) (len : ∀ vs H Q E, sp vs H Q E → vs.length = ps.length)
    (hbody : ∀ (f : Addr) (A : Around) (outer : List Env) (s : Shared) (H : Hp) (vs : List V) (Q : VK) (E : XK), Room k (A.deeper (envOfC x (defScope st) s.heap.objs.size f (.ref c))) → A.guards = some [] → sp vs H Q E →
      ∃ t, PSs (cxOf CX0 P w K mg base N x (defScope st) f (.ref c) A outer s H E).nox (defBody st) t ∧ t { nx := fun _ H' => Q .non H', rt := Q } (start N vs) H) : OkG P w K mg base (k + 1) x ps sp := by
  obtain ⟨f, oc, od, an, kV, doc, pm, ct, osl, lk, hc, hk, hm, hb⟩ := D.ex
  refine ⟨f, _, fnG_of (CX := CX0) lk hc S len fun A outer s H vs Q E hr hgd hsp => ?_, hm, hk, hb⟩
  obtain ⟨t, ht, hq⟩ := hbody f A outer s H vs Q E hr hgd hsp
  exact ⟨t, ht.nox, hq⟩
end
end OC
set_option Elab.async false
set_option linter.all false
set_option maxRecDepth 100000
set_option maxHeartbeats 4000000
/-! what a parting is: parts that rise, their names all of the group -/
namespace OC
open PySem PySem.Spec PyProof.Rows L2 PySem.W
def sl (a b : Str) : Prop := a.cps.toList < b.cps.toList
theorem sl_trans {a b c : Str} (h1 : sl a b) (h2 : sl b c) : sl a c := List.lt_trans h1 h2
theorem ris_cons2 (a b : PyData) (l : List PyData) : risD (a :: b :: l) = (dataLt a b && risD (b :: l)) := by
  unfold risD
  simp
theorem ris_iff {α : Type} {f : α → PyData} {R : α → α → Prop} (tr : ∀ a b c, R a b → R b c → R a c) : ∀ {l : List α}, (l.Pairwise fun a b => (dataLt (f a) (f b) = true ↔ R a b)) → (risD (l.map f) = true ↔ l.Pairwise R)
  | [], _ => by simp [risD]
  | [a], _ => by simp [risD]
  | a :: b :: l, h => by
    obtain ⟨h1, h2⟩ := List.pairwise_cons.mp h
    have ih := ris_iff tr h2
    rw [List.map_cons] at ih
    rw [List.map_cons, List.map_cons, ris_cons2, Bool.and_eq_true, h1 b List.mem_cons_self, ih]
    constructor
    · rintro ⟨x, y⟩
      refine List.pairwise_cons.mpr ⟨fun c hc => ?_, y⟩
      rcases List.mem_cons.mp hc with rfl | hc
      · exact x
      · exact tr _ _ _ x ((List.pairwise_cons.mp y).1 c hc)
    · intro z
      obtain ⟨x, y⟩ := List.pairwise_cons.mp z
      exact ⟨x b List.mem_cons_self, y⟩
theorem pw_all {α : Type} {R : α → α → Prop} (h : ∀ a b, R a b) : ∀ l : List α, l.Pairwise R
  | [] => .nil
  | a :: l => .cons (fun b _ => h a b) (pw_all h l)
theorem lt_strs (a b : Str) : dataLt (.str a) (.str b) = true ↔ sl a b := by
  rw [dataLt_str, decide_eq_true_iff]
  exact Iff.rfl
theorem ris_strs (q : List Str) : risD (q.map PyData.str) = true ↔ q.Pairwise sl :=
  ris_iff (R := sl) (fun _ _ _ => sl_trans) (pw_all lt_strs q)
end OC
set_option Elab.async false
set_option linter.all false
set_option maxRecDepth 100000
set_option maxHeartbeats 4000000
/-! classes of one's own and their methods, by name -/
namespace OC
open PySem PySem.Spec PyProof.Rows L2
structure ClsN (K : PySem.W.Frag) (mg : Str → Option Value) (x : Str) : Prop where
  g : mg x = some (.ref (adr mg x))
  cl : Cls K (adr mg x)
  mkk : PySem.W.makesIn K (adr mg x) = true
  kp : PySem.W.keepIn K (.ref (adr mg x)) = true
/-- a method of the class c: m, by its full name q -/
structure DfM (K : PySem.W.Frag) (mg : Str → Option Value) (c m q : Str) (st : Stmt) (ps : List Str) (dvs : List V) : Prop where
  ex : ∃ (f : Addr) (fd : FuncData) (ds : List Value), Fun K m q st f fd ∧ Vals dvs ds ∧ Binds K fd ps ds ∧ Meth K (adr mg c) m f
structure OkM (P : Program) (w : World) (K : PySem.W.Frag) (mg : Str → Option Value) (base : Heap) (k : Nat) (c m : Str) (ps : List Str) (dvs : List V) (sp : Sp) : Prop where
  ex : ∃ (f : Addr) (fd : FuncData) (ds : List Value), FnOk P w K mg base CX0 k f fd ps sp ∧ Meth K (adr mg c) m f ∧ Vals dvs ds ∧ Binds K fd ps ds
section
variable {P : Program} {w : World} {K : PySem.W.Frag} {mg : Str → Option Value} {base : Heap}
theorem DfM.ok {c m q : Str} {st : Stmt} {N ps : List Str} {dvs : List V} {k : Nat} {sp : Sp} (D : DfM K mg c m q st ps dvs) (S : FnScope N ps (defScope st)) (len : ∀ vs H Q E, sp vs H Q E → vs.length = ps.length)
    (hbody : ∀ (f : Addr) (cdv : Value) (A : Around) (outer : List Env) (s : Shared) (H : Hp) (vs : List V) (Q : VK) (E : XK), Room k (A.deeper (envOfC q (defScope st) s.heap.objs.size f cdv)) → sp vs H Q E →
      ∃ t, PSs (cxOf CX0 P w K mg base N q (defScope st) f cdv A outer s H E).nox (defBody st) t ∧ t { nx := fun _ H' => Q .non H', rt := Q } (start N vs) H) : OkM P w K mg base (k + 1) c m ps dvs sp := by
  obtain ⟨f, fd, ds, F, v, b, g⟩ := D.ex
  exact ⟨f, fd, ds, F.ok S len (hbody f), g, v, b⟩
theorem OkM.mono {c m : Str} {ps : List Str} {dvs : List V} {j k : Nat} {sp : Sp} (O : OkM P w K mg base j c m ps dvs sp) (h : j ≤ k) : OkM P w K mg base k c m ps dvs sp := by
  obtain ⟨f, fd, ds, F, r⟩ := O.ex
  exact ⟨f, fd, ds, F.mono h, r⟩
end
section
variable {X : Cx} {c m : Str} {ps : List Str} {dvs : List V} {k : Nat} {sp : Sp}
/-- o.m(e, ..) -/
theorem pe_methO {pl : Sem Bool} {o e : Expr} {es : List Expr} {ta : TE} {t : TA} {apos pos : Pos} (O : OkM X.prog X.w X.K X.mg X.base k c m ps dvs sp) (C : ClsN X.K X.mg c) (hr : Room k X.A) (he : PE X o ta) (ha : PA X (e :: es) t)
    (hst : starEach (e :: es) X.env = (false, eval e X.env) :: starEach es X.env := by rfl) (hpl : (backTo pos (starEach es X.env)).any (·.1) = false := by rfl)
    (ht : eval (.Call (.Attribute o m apos) (e :: es) [] pos) X.env = (do
      let ov ← eval o X.env
      standAt apos.atName
      let (f, first) ← holding [ov] (getMethod ov m pl)
      callWith pos f first (backTo pos (starEach (e :: es) X.env)) (backToKw pos (keywordEach [] X.env))) := by rfl) :
    PE X (.Call (.Attribute o m apos) (e :: es) [] pos) (tMeth (adr X.mg c) m sp dvs E0 ta t) := by
  obtain ⟨f, fd, ds, F, g, v, b⟩ := O.ex
  exact pe_meth he C.cl g F hr b v pass0 ha hst hpl ht
/-- o.m() -/
theorem pe_methO0 {pl : Sem Bool} {o : Expr} {ta : TE} {apos pos : Pos} (O : OkM X.prog X.w X.K X.mg X.base k c m ps dvs sp) (C : ClsN X.K X.mg c) (hr : Room k X.A) (he : PE X o ta)
    (ht : eval (.Call (.Attribute o m apos) [] [] pos) X.env = (do
      let ov ← eval o X.env
      standAt apos.atName
      let (f, first) ← holding [ov] (getMethod ov m pl)
      callWith pos f first (backTo pos (starEach [] X.env)) (backToKw pos (keywordEach [] X.env))) := by rfl) :
    PE X (.Call (.Attribute o m apos) [] [] pos) (tMeth (adr X.mg c) m sp dvs E0 ta tNil) := by
  obtain ⟨f, fd, ds, F, g, v, b⟩ := O.ex
  exact pe_meth0 he C.cl g F hr b v pass0 ht
/-- C(e, ..) -/
theorem pe_makeO {e : Expr} {es : List Expr} {t : TA} {p pos : Pos} (O : OkM X.prog X.w X.K X.mg X.base k c "__init__" ps dvs sp) (C : ClsN X.K X.mg c) (hr : Room (k + 1) X.A) (hg : Gl X c) (ha : PA X (e :: es) t) (hdb : (c == ("__debug__" : Str)) = false := by decide)
    (he : starEach (e :: es) X.env = (false, eval e X.env) :: starEach es X.env := by rfl) (hpl : (backTo pos (starEach es X.env)).any (·.1) = false := by rfl) :
    PE X (.Call (.Name c p) (e :: es) [] pos) (tMake (adr X.mg c) sp dvs E0 t) := by
  obtain ⟨f, fd, ds, F, g, v, b⟩ := O.ex
  exact pe_make ⟨C.mkk, g.at_, g.fn, C.kp⟩ F hr hg C.g b v pass0 ha hdb he hpl
end
/-- a method whose keyword-only parameters are written -/
structure OkMK (P : Program) (w : World) (K : PySem.W.Frag) (mg : Str → Option Value) (base : Heap) (k : Nat) (c m : Str) (ps : List Str) (n : Nat) (ks : List Str) (sp : Sp) : Prop where
  ex : ∃ (f : Addr) (fd : FuncData), FnOk P w K mg base CX0 k f fd ps sp ∧ Meth K (adr mg c) m f ∧ KBn K fd ps n ks (fun us ws => us ++ ws) (fun vs zs => vs ++ zs)
section
variable {P : Program} {w : World} {K : PySem.W.Frag} {mg : Str → Option Value} {base : Heap}
theorem DfM.okK {c m q : Str} {st : Stmt} {N ps : List Str} {dvs : List V} {k n : Nat} {ks : List Str} {sp : Sp} (D : DfM K mg c m q st ps dvs) (S : FnScope N ps (defScope st)) (len : ∀ vs H Q E, sp vs H Q E → vs.length = ps.length)
    (hb : ∀ (kV doc pm : Value) (an : Option Addr) (cdv ct : Value) (us ws : List Value), us.length = n → ws.length = ks.length → bindArgs (PySem.W.fnOf m q (defArgs st) (defBody st) (defScope st) .none kV doc pm an cdv ct) ⟨us, ks.zip ws⟩ = pure (ps.zip (us ++ ws)))
    (hbody : ∀ (f : Addr) (cdv : Value) (A : Around) (outer : List Env) (s : Shared) (H : Hp) (vs : List V) (Q : VK) (E : XK), Room k (A.deeper (envOfC q (defScope st) s.heap.objs.size f cdv)) → sp vs H Q E →
      ∃ t, PSs (cxOf CX0 P w K mg base N q (defScope st) f cdv A outer s H E).nox (defBody st) t ∧ t { nx := fun _ H' => Q .non H', rt := Q } (start N vs) H) : OkMK P w K mg base (k + 1) c m ps n ks sp := by
  obtain ⟨f, fd, ds, F, v, b, g⟩ := D.ex
  refine ⟨f, fd, F.ok S len (hbody f), g, ⟨fun s us ws X l1 l2 => ?_, fun r1 r2 => r1.append r2⟩⟩
  obtain ⟨oc, od, kV, doc, pm, an, cdv, ct, osl, rfl, lk, hcd⟩ := F.ex
  exact .of_eq (hb kV doc pm an cdv ct us ws l1 l2)
theorem OkMK.mono {c m : Str} {ps : List Str} {n : Nat} {ks : List Str} {j k : Nat} {sp : Sp} (O : OkMK P w K mg base j c m ps n ks sp) (h : j ≤ k) : OkMK P w K mg base k c m ps n ks sp := by
  obtain ⟨f, fd, F, r⟩ := O.ex
  exact ⟨f, fd, F.mono h, r⟩
end
def tMethK (C : Addr) (m : Str) (n nk : Nat) (sp : Sp) (ta : TE) (t tk : TA) : TE := fun σ H Q => ta σ H fun x H1 => ∃ a dx fs, x = .ref a ∧ H1 a = some (.ins C dx fs) ∧ fs.lookup m = none ∧ t σ H1 fun vs H2 => tk σ H2 fun zs H3 => (x :: vs).length = n ∧ zs.length = nk ∧ sp (x :: vs ++ zs) H3 Q E0
section
variable {X : Cx} {c m : Str} {ps ks : List Str} {k n : Nat} {sp : Sp}
/-- o.m(k = e) -/
theorem pe_methK0 {pl : Sem Bool} {o : Expr} {kws : List Keyword} {ta : TE} {tk : TA} {apos pos : Pos} (O : OkMK X.prog X.w X.K X.mg X.base k c m ps n ks sp) (C : ClsN X.K X.mg c) (hr : Room k X.A) (he : PE X o ta) (hkw : PK X kws tk)
    (h1 : (backToKw pos (keywordEach kws X.env)).all (·.1.isSome) = true := by rfl) (h2 : (backToKw pos (keywordEach kws X.env)).filterMap (·.1) = ks := by rfl)
    (h4 : ((backTo pos (starEach [] X.env)).any (·.1) || (backToKw pos (keywordEach kws X.env)).any (·.1.isNone)) = false := by rfl)
    (ht : eval (.Call (.Attribute o m apos) [] kws pos) X.env = (do
      let ov ← eval o X.env
      standAt apos.atName
      let (f, first) ← holding [ov] (getMethod ov m pl)
      callWith pos f first (backTo pos (starEach [] X.env)) (backToKw pos (keywordEach kws X.env))) := by rfl) :
    PE X (.Call (.Attribute o m apos) [] kws pos) (tMethK (adr X.mg c) m n ks.length sp ta tNil tk) := by
  obtain ⟨f, fd, F, g, b⟩ := O.ex
  refine ⟨fun pins s σ H Q I h => ?_⟩
  refine PySem.W.methodCall_KW (pl := pl) (thn (he.run pins s σ H _ I h) fun u s1 ⟨x, H1, I1, rx, a, dx, fs, ex, ea, l, q⟩ => ?_) ht
  subst ex
  obtain rfl : u = Value.ref a := rx
  refine getmeth_ok I1 ea C.cl g l ?_
  refine PySem.W.callWith_KW0 (h₀ := X.base) I.ok.mod.kin g.kp h1 (thn (hkw.run pos pins s1 σ H1 _ I1 q) fun ws s2 ⟨zs, H2, I2, rz, l1, l2, q2⟩ => ⟨I2.kIn, ?_⟩) h4
  rw [h2]
  exact run_fnN (us := [.ref a]) (vs := [.ref a]) F hr b pass0 I2 (.cons rfl .nil) rz l1 l2 q2
/-- o.m(e, .., k = x) -/
theorem pe_methK {pl : Sem Bool} {o e : Expr} {es : List Expr} {kws : List Keyword} {ta : TE} {t tk : TA} {apos pos : Pos} (O : OkMK X.prog X.w X.K X.mg X.base k c m ps n ks sp) (C : ClsN X.K X.mg c) (hr : Room k X.A) (he : PE X o ta) (ha : PA X (e :: es) t) (hkw : PK X kws tk)
    (h1 : (backToKw pos (keywordEach kws X.env)).all (·.1.isSome) = true := by rfl) (h2 : (backToKw pos (keywordEach kws X.env)).filterMap (·.1) = ks := by rfl)
    (h3 : starEach (e :: es) X.env = (false, eval e X.env) :: starEach es X.env := by rfl) (h4 : ((backTo pos (starEach (e :: es) X.env)).any (·.1) || (backToKw pos (keywordEach kws X.env)).any (·.1.isNone)) = false := by rfl)
    (ht : eval (.Call (.Attribute o m apos) (e :: es) kws pos) X.env = (do
      let ov ← eval o X.env
      standAt apos.atName
      let (f, first) ← holding [ov] (getMethod ov m pl)
      callWith pos f first (backTo pos (starEach (e :: es) X.env)) (backToKw pos (keywordEach kws X.env))) := by rfl) :
    PE X (.Call (.Attribute o m apos) (e :: es) kws pos) (tMethK (adr X.mg c) m n ks.length sp ta t tk) := by
  obtain ⟨f, fd, F, g, b⟩ := O.ex
  refine ⟨fun pins s σ H Q I h => ?_⟩
  refine PySem.W.methodCall_KW (pl := pl) (thn (he.run pins s σ H _ I h) fun u s1 ⟨x, H1, I1, rx, a, dx, fs, ex, ea, l, q⟩ => ?_) ht
  subst ex
  obtain rfl : u = Value.ref a := rx
  refine getmeth_ok I1 ea C.cl g l ?_
  refine PySem.W.callWith_KW (h₀ := X.base) (first := [.ref a]) I.ok.mod.kin g.kp h1 (thn (ha.run pos pins s1 σ H1 _ I1 q) fun us s2 ⟨vs, H2, I2, r, q2⟩ => thn (hkw.run pos pins s2 σ H2 _ I2 q2) fun ws s3 ⟨zs, H3, I3, rz, l1, l2, q3⟩ => ⟨I3.kIn, ?_⟩) h4 h3
  rw [h2]
  exact run_fnN (us := .ref a :: us) (vs := .ref a :: vs) F hr b pass0 I3 (.cons rfl r) rz l1 l2 q3
end
/-- x(e, .., *y), x a local name that holds a def -/
structure HeldR (P : Program) (w : World) (K : PySem.W.Frag) (mg : Str → Option Value) (base : Heap) (k : Nat) (f : Addr) (sp : Sp) : Prop where
  ex : FnR P w K mg base CX0 k f sp
  kp : PySem.W.keepIn K (.ref f) = true
def tCallLS (P : Program) (w : World) (K : PySem.W.Frag) (mg : Str → Option Value) (base : Heap) (i k : Nat) (t : TA) : TE := fun σ H Q => ∃ (f : Addr) (sp : Sp), σ[i]? = some (some (.ref f)) ∧ HeldR P w K mg base k f sp ∧ t σ H fun vs H1 => sp vs H1 Q E0
section
variable {X : Cx} {k i : Nat} {x : Str} {e : Expr} {es : List Expr} {t : TA} {p pos : Pos}
theorem pe_callLS (hr : Room k X.A) (hN : X.N[i]? = some x) (hv : Vis X.env.scope x) (ha : PA X (e :: es) t)
    (hdb : (x == ("__debug__" : Str)) = false := by decide) (hcd : (x == ("__classdict__" : Str)) = false := by decide)
    (he : starEach (e :: es) X.env = (false, eval e X.env) :: starEach es X.env := by rfl) (hst : (backTo pos (starEach es X.env)).any (·.1) = true := by rfl) :
    PE X (.Call (.Name x p) (e :: es) [] pos) (tCallLS X.prog X.w X.K X.mg X.base i k t) := by
  refine ⟨fun pins s σ H Q I h => ?_⟩
  obtain ⟨f, sp, hs, ⟨F, hk⟩, ht⟩ := h
  refine wpAny_Call_Name_kw (thn ((pe_var (pos := p) hN hv hdb hcd).run pins s σ H (fun v H1 => v = .ref f ∧ H1 = H) I ⟨.ref f, hs, rfl, rfl⟩) fun u s1 ⟨v, H1, I1, r1, q1⟩ => ?_)
  obtain ⟨rfl, rfl⟩ := q1
  cases r1
  refine PySem.W.callWith_S2 (h₀ := X.base) I.ok.mod.kin hk (thn (ha.run pos pins s1 σ _ _ I1 ht) fun us s2 ⟨vs, H2, I2, r, q⟩ => ⟨I2.kIn, ?_⟩) he hst
  exact wpAny_call (run_fnR F hr pass0 I2 r q)
end
theorem OkM.held {P : Program} {w : World} {K : PySem.W.Frag} {mg : Str → Option Value} {base : Heap} {k : Nat} {x : Str} {ps : List Str} {sp : Sp} (O : Ok P w K mg base k x ps sp) : ∃ f, mg x = some (.ref f) ∧ HeldR P w K mg base k f sp := by
  obtain ⟨f, fd, F, g, kp, b⟩ := O.ex
  refine ⟨f, g, ?_, kp⟩
  have := F.raw b .nil
  exact this.imp fun vs H Q E h => by rw [List.append_nil]; exact h
/-! ### len(x) of an instance whose class has a __len__ of its own -/
def rLenOwn (C : Addr) (sp : Sp) : List V → Hp → VK → Prop := fun xs H Q => ∃ a dx fs, xs = [V.ref a] ∧ H a = some (.ins C dx fs) ∧ sp [.ref a] H (fun z H' => ∃ n : Nat, z = .int n ∧ n ≤ 1000 ∧ Q z H') E0
theorem call_lenOwn {X : Cx} {C g : Addr} {n : Nat} {sp : Sp} (hs : PySem.W.findIn X.K (.ref C) "__len__" = some (some (.ref g))) (hf : PySem.W.isFn X.K (.ref g) = true) (F : FnR X.prog X.w X.K X.mg X.base CX0 n g sp) (hr : Room (n + 1) X.A) : CallR X (.builtin "len") (rLenOwn C sp) := by
  intro pins s σ H xs us Q I r h
  obtain ⟨a, dx, fs, rfl, ha, q⟩ := h
  obtain ⟨u, rfl, ru⟩ := r.one
  cases (show u = Value.ref a from ru)
  obtain ⟨mA, O, _⟩ := ins_get I.hok ha
  obtain ⟨od, J, _⟩ := O.look
  have hr1 : Room n X.A.in1 := Room.in1 hr
  refine Calls.call_function_entry kind_len plain_len entry_len (args_len1 _) ?_
  unfold Builtin.«len»
  refine wpAny_bind (m := oneArg "len" _) (wpAny_pure ?_)
  refine wpAny_bind (m := callSpecial? (.ref a) (Str.ofString "__len__")) (PySem.W.special_fn I.kIn J hs (beq_iff_eq.mp hf) (wpAny_mono (wpAny_call (SlX.run_at (us := [.ref a]) (ws := [.ref a]) F hr1 I.env0.in1 pass0 I (.cons rfl .nil) q)) (fun w s' z => ?_) fun _ _ x => x))
  obtain ⟨z', H', I', rz, m, ei, hm, qz⟩ := z
  subst ei
  obtain ⟨t, e⟩ := (show ∃ t, w = Value.int (m : Int) t from rz)
  cases e
  refine wpAny_bind (wpAny_holding (wpAny_pure ?_))
  refine wpAny_bind (wpAny_letGo ?_)
  show wpAny _ _ (if ((m : Nat) : Int) < 0 then _ else _) _ _ _
  rw [if_neg (by omega)]
  show wpAny _ _ (if ((m : Nat) : Int) ≥ 2 ^ 63 then _ else _) _ _ _
  rw [if_neg (by omega)]
  exact wpAny_bind (wpAny_mkInt (wpAny_pure ⟨_, rfl, .int m, H', I'.tok _, ⟨_, rfl⟩, qz⟩))
theorem call_lenM {X : Cx} {c : Str} {n : Nat} {ps : List Str} {sp : Sp} (O : OkM X.prog X.w X.K X.mg X.base n c "__len__" ps [] sp) (hr : Room (n + 1) X.A) : CallR X (.builtin "len") (rLenOwn (adr X.mg c) sp) := by
  obtain ⟨f, fd, ds, F, g, v, b⟩ := O.ex
  have R := F.raw b v
  exact call_lenOwn g.at_ g.fn (R.imp (sp' := sp) fun vs H Q E h => by rw [List.append_nil]; exact h) hr
/-! ### what the end tells of classes and methods -/
section
variable {K : PySem.W.Frag} {h : Heap} {mg : Str → Option Value} {x : Str} {C : Addr}
theorem clsN_of (X : K.In h) (G : h.Ns mainGlobals mg) (a : PySem.W.nsIn K mainGlobals x = some (some (.ref C))) (pg : PySem.W.plainGet K C Str.empty = true) (hd : PySem.W.hasDictIn K C = true) (po : PySem.W.plainOver K C = true)
    (sa : PySem.W.findIn K (.ref C) "__setattr__" = some (some (.builtin "object.__setattr__"))) (mk : PySem.W.makesIn K C = true) (kp : PySem.W.keepIn K (.ref C) = true) : ClsN K mg x := by
  have g := PySem.W.mg_of X G a
  have e := adr_of g
  refine ⟨by rw [e]; exact g, ?_, ?_, ?_⟩ <;> rw [e]
  · exact ⟨pg, hd, po, sa⟩
  · exact mk
  · exact kp
theorem noA_of (X : K.In h) (G : h.Ns mainGlobals mg) (a : PySem.W.nsIn K mainGlobals x = some (some (.ref C))) {f : Str} (n : PySem.W.findIn K (.ref C) f = some none) : NoAttr K (adr mg x) f := by
  rw [adr_of (PySem.W.mg_of X G a)]
  exact n
theorem dfM_of {m q : Str} {st : Stmt} {ps : List Str} {f : Addr} {oc : Value} {od an : Option Addr} {osl : Array (Option Value)} {kV doc pm cdv ct : Value} (X : K.In h) (G : h.Ns mainGlobals mg)
    (a : PySem.W.nsIn K mainGlobals x = some (some (.ref C))) (fi : PySem.W.findIn K (.ref C) m = some (some (.ref f))) (fn : PySem.W.isFn K (.ref f) = true)
    (l : K.lookup f = some ⟨oc, od, .func (PySem.W.fnOf m q (defArgs st) (defBody st) (defScope st) .none kV doc pm an cdv ct), osl⟩)
    (c : PySem.W.codeIn K cdv q = true) (k : PySem.W.keepIn K (.ref f) = true)
    (hb : ∀ (kV doc pm : Value) (an : Option Addr) (cdv ct : Value) (us : List Value), us.length = ps.length → bindArgs (PySem.W.fnOf m q (defArgs st) (defBody st) (defScope st) .none kV doc pm an cdv ct) ⟨us, []⟩ = pure (ps.zip us)) : DfM K mg x m q st ps [] := by
  have F := fun_mk (st := st) l c k
  refine ⟨f, _, [], F, .nil, F.binds hb, ?_⟩
  rw [adr_of (PySem.W.mg_of X G a)]
  exact ⟨fi, fn, k⟩
theorem dfMD_of {m q y : Str} {st : Stmt} {ps : List Str} {n : Nat} {f D : Addr} {oc : Value} {od an : Option Addr} {osl : Array (Option Value)} {kV doc pm cdv ct : Value} (X : K.In h) (G : h.Ns mainGlobals mg)
    (a : PySem.W.nsIn K mainGlobals x = some (some (.ref C))) (fi : PySem.W.findIn K (.ref C) m = some (some (.ref f))) (fn : PySem.W.isFn K (.ref f) = true)
    (l : K.lookup f = some ⟨oc, od, .func (PySem.W.fnOf m q (defArgs st) (defBody st) (defScope st) .none kV doc pm an cdv ct), osl⟩)
    (c : PySem.W.codeIn K cdv q = true) (k : PySem.W.keepIn K (.ref f) = true) (hk : kV = .ref D) (hd : PySem.W.nsIn K D y = some (some .none))
    (hb : ∀ (D : Addr) (doc pm : Value) (an : Option Addr) (cdv ct : Value) (us : List Value), us.length = n → KwChain D [(y, Value.none)] (bindArgs (PySem.W.fnOf m q (defArgs st) (defBody st) (defScope st) .none (.ref D) doc pm an cdv ct) ⟨us, []⟩) (ps.zip (us ++ [Value.none])))
    (hn : n + 1 = ps.length := by rfl) : DfM K mg x m q st ps [.non] := by
  subst hk
  have F := fun_mk (st := st) l c k
  refine ⟨f, _, [.none], F, .cons rfl .nil, fun s us X hl => ?_, ?_⟩
  · rw [List.length_append, List.length_singleton] at hl
    refine BindsTo.of_looks fun M => KwChain.looks X (fun q hq => ?_) (hb D doc pm an cdv ct us (by omega))
    rw [List.mem_singleton.mp hq]
    exact hd
  · rw [adr_of (PySem.W.mg_of X G a)]
    exact ⟨fi, fn, k⟩
end
end OC
namespace OC
open PySem PySem.Spec PyProof.Rows L2
/-! ### constants of the module -/
theorem pe_cstr {X : Cx} {x : Str} {z : Str} {pos : Pos} (h : ∃ t, X.mg x = some (.str z t)) (hg : Gl X x) (hd : (x == ("__debug__" : Str)) = false := by decide) : PE X (.Name x pos) (tC (.str z)) := by
  obtain ⟨t, h⟩ := h
  exact pe_glob hg h ⟨t, rfl⟩ hd
theorem pe_cint {X : Cx} {x : Str} {z : Int} {pos : Pos} (h : ∃ t, X.mg x = some (.int z t)) (hg : Gl X x) (hd : (x == ("__debug__" : Str)) = false := by decide) : PE X (.Name x pos) (tC (.int z)) := by
  obtain ⟨t, h⟩ := h
  exact pe_glob hg h ⟨t, rfl⟩ hd
end OC
set_option Elab.async false
set_option linter.all false
set_option maxRecDepth 100000
set_option maxHeartbeats 4000000
/-! moments and books: what stands in memory, what they mean -/
namespace OC
open PySem PySem.Spec PyProof.Rows L2
/-- a moment: the prime, how many numbers, what the listener and each hand heard -/
structure Mom where
  p : Int
  n : Nat
  called : List (List Int)
  hands : List (Str × List (List Int))
/-- what is known at it -/
def Mom.roomsM (m : Mom) : List (Str × List (List Int)) := m.hands.map fun h => (h.1, plainR m.p m.n h.2)
def Mom.openM (m : Mom) : List (List Int) := plainR m.p m.n m.called
def standM (m : Mom) : PyData := standD m.p m.n m.openM m.roomsM
/-- what hands, or the listener, heard -/
def heardM (m : Mom) (ns : List Str) : List (List Int) := if ns = [] then m.called else selR ns m.hands
structure MomOk (B : Nat) (m : Mom) : Prop where
  fld : Fld m.p
  p1 : m.p ≤ 1000
  n1 : 1 ≤ m.n
  n8 : m.n ≤ 8
  okc : RowsOk m.p m.n m.called
  okh : ∀ h ∈ m.hands, RowsOk m.p m.n h.2
  inn : ∀ h ∈ m.hands, ∀ r ∈ m.called, InR m.p h.2 r
  few : 2 ≤ m.hands.length
  many : m.hands.length ≤ 6
  srt : sortedS (m.hands.map Prod.fst) = true
  nd : (m.hands.map Prod.fst).Nodup
  nm : ∀ x ∈ m.hands.map Prod.fst, NameOk x
  lc : m.called.length ≤ B
  lh : ∀ h ∈ m.hands, h.2.length ≤ B
theorem MomOk.mono {B B' : Nat} {m : Mom} (h : MomOk B m) (l : B ≤ B') : MomOk B' m := { h with lc := Nat.le_trans h.lc l, lh := fun x hx => Nat.le_trans (h.lh x hx) l }
theorem roomsM_names (m : Mom) : m.roomsM.map Prod.fst = m.hands.map Prod.fst := by
  unfold Mom.roomsM
  rw [List.map_map]
  exact List.map_congr_left fun _ _ => rfl
/-- the stand of a moment is one -/
theorem MomOk.five {B : Nat} {m : Mom} (M : MomOk B m) : Stand5 m.p m.n m.openM m.roomsM where
  fld := M.fld
  p1 := M.p1
  n1 := M.n1
  n8 := M.n8
  pk := PFR.of_plain M.fld M.okc
  ph := fun h hh => by
    obtain ⟨x, mx, rfl⟩ := List.mem_map.mp hh
    exact PFR.of_plain M.fld (M.okh x mx)
  inn := fun h hh r hr => by
    obtain ⟨x, mx, rfl⟩ := List.mem_map.mp hh
    have h1 := (InR.plain M.fld M.okc).mp (InR.mem hr)
    exact (InR.plain M.fld (M.okh x mx)).mpr (InR.mono (fun z hz => M.inn x mx z hz) h1)
  few := by unfold Mom.roomsM; rw [List.length_map]; exact M.few
  many := by
    have := M.many
    unfold Mom.roomsM
    rw [List.length_map]
    omega
  srt := by rw [roomsM_names]; exact M.srt
  nd := by rw [roomsM_names]; exact M.nd
  nm := by rw [roomsM_names]; exact M.nm
/-! ### in memory -/
def momF (p : Int) (n : Nat) (c h : Addr) : List (Str × V) := putF "hands" (.ref h) (putF "called" (.ref c) (putF "n" (.int (n : Int)) (putF "p" (.int p) [])))
theorem momF_p {p : Int} {n : Nat} {c h : Addr} : (momF p n c h).lookup ("p" : Str) = some (.int p) := by
  unfold momF
  rw [lookup_putF, if_neg (by decide +kernel), lookup_putF, if_neg (by decide +kernel), lookup_putF, if_neg (by decide +kernel), lookup_putF, if_pos rfl]
theorem momF_n {p : Int} {n : Nat} {c h : Addr} : (momF p n c h).lookup ("n" : Str) = some (.int (n : Int)) := by
  unfold momF
  rw [lookup_putF, if_neg (by decide +kernel), lookup_putF, if_neg (by decide +kernel), lookup_putF, if_pos rfl]
theorem momF_called {p : Int} {n : Nat} {c h : Addr} : (momF p n c h).lookup ("called" : Str) = some (.ref c) := by
  unfold momF
  rw [lookup_putF, if_neg (by decide +kernel), lookup_putF, if_pos rfl]
theorem momF_hands {p : Int} {n : Nat} {c h : Addr} : (momF p n c h).lookup ("hands" : Str) = some (.ref h) := by
  unfold momF
  rw [lookup_putF, if_pos rfl]
def MomAt (K : PySem.W.Frag) (mg : Str → Option Value) (H : Hp) (a : Addr) (m : Mom) : Prop :=
  ∃ dx c h, H a = some (.ins (adr mg "Moment") dx (momF m.p m.n c h)) ∧ RowsAt K H c m.called ∧ Dp K H (.ref h) (.tuple (m.hands.map handD))
def bookF (w t u v : Addr) (am : Bool) : List (Str × V) := putF "amid" (.bl am) (putF "trials" (.ref v) (putF "done" (.ref u) (putF "moments" (.ref t) (putF "made" (.ref w) []))))
section
variable {w t u v : Addr} {am : Bool}
theorem bookF_amid : (bookF w t u v am).lookup ("amid" : Str) = some (.bl am) := by
  unfold bookF
  rw [lookup_putF, if_pos rfl]
theorem bookF_done : (bookF w t u v am).lookup ("done" : Str) = some (.ref u) := by
  unfold bookF
  rw [lookup_putF, if_neg (by decide +kernel), lookup_putF, if_neg (by decide +kernel), lookup_putF, if_pos rfl]
theorem bookF_moments : (bookF w t u v am).lookup ("moments" : Str) = some (.ref t) := by
  unfold bookF
  rw [lookup_putF, if_neg (by decide +kernel), lookup_putF, if_neg (by decide +kernel), lookup_putF, if_neg (by decide +kernel), lookup_putF, if_pos rfl]
theorem bookF_none {f : Str} (h1 : ¬ f = "amid") (h2 : ¬ f = "trials") (h3 : ¬ f = "done") (h4 : ¬ f = "moments") (h5 : ¬ f = "made") : (bookF w t u v am).lookup f = none := by
  unfold bookF
  rw [lookup_putF, if_neg h1, lookup_putF, if_neg h2, lookup_putF, if_neg h3, lookup_putF, if_neg h4, lookup_putF, if_neg h5]
  rfl
theorem bookF_eq : bookF w t u v am = ([(("made" : Str), V.ref w), (("moments" : Str), V.ref t), (("done" : Str), V.ref u), (("trials" : Str), V.ref v), (("amid" : Str), V.bl am)] : List (Str × V)) := by
  have e1 : ¬ (("made" : Str) = "moments") := by decide +kernel
  have e2 : ¬ (("made" : Str) = "done") := by decide +kernel
  have e3 : ¬ (("made" : Str) = "trials") := by decide +kernel
  have e4 : ¬ (("made" : Str) = "amid") := by decide +kernel
  have e5 : ¬ (("moments" : Str) = "done") := by decide +kernel
  have e6 : ¬ (("moments" : Str) = "trials") := by decide +kernel
  have e7 : ¬ (("moments" : Str) = "amid") := by decide +kernel
  have e8 : ¬ (("done" : Str) = "trials") := by decide +kernel
  have e9 : ¬ (("done" : Str) = "amid") := by decide +kernel
  have e0 : ¬ (("trials" : Str) = "amid") := by decide +kernel
  unfold bookF
  simp only [putF, if_neg e1, if_neg e2, if_neg e3, if_neg e4, if_neg e5, if_neg e6, if_neg e7, if_neg e8, if_neg e9, if_neg e0]
theorem bookF_setMoments (z : Addr) : putF "moments" (.ref z) (bookF w t u v am) = bookF w z u v am := by
  rw [bookF_eq, bookF_eq]
  have e1 : ¬ (("made" : Str) = "moments") := by decide +kernel
  simp only [putF, if_neg e1, if_true]
theorem bookF_setDone (z : Addr) : putF "done" (.ref z) (bookF w t u v am) = bookF w t z v am := by
  rw [bookF_eq, bookF_eq]
  have e1 : ¬ (("made" : Str) = "done") := by decide +kernel
  have e2 : ¬ (("moments" : Str) = "done") := by decide +kernel
  simp only [putF, if_neg e1, if_neg e2, if_true]
theorem bookF_len : (bookF w t u v am).length = 5 := by rw [bookF_eq]; rfl
end
/-- the deeds -/
inductive Deed where
  | call (x : Str) (r : List Int)
  | whisper (ns : List Str) (r : List Int)
  | meet (ns : List Str)
  | hide
  | change (k : Nat) (r : List Int)
  | come (x : Str) (rs : List (List Int))
  | go (x : Str)
def strsD (ns : List Str) : PyData := .tuple (ns.map PyData.str)
def deedD : Deed → PyData
  | .call x r => .tuple [.str "call", .str x, rowD r]
  | .whisper ns r => .tuple [.str "whisper", strsD ns, rowD r]
  | .meet ns => .tuple [.str "meet", strsD ns]
  | .hide => .tuple [.str "hide"]
  | .change k r => .tuple [.str "change", .int k, rowD r]
  | .come x rs => .tuple [.str "come", .str x, .tuple (rs.map rowD)]
  | .go x => .tuple [.str "go", .str x]
theorem noL_strsA : ∀ ns : List Str, noLAll (ns.map PyData.str) = true
  | [] => rfl
  | x :: ns => by simp only [List.map_cons, noLAll, noL, Bool.true_and]; exact noL_strsA ns
theorem noL_strsD (ns : List Str) : noL (strsD ns) = true := by
  unfold strsD
  simp only [noL]
  exact noL_strsA ns
theorem noL_deed (d : Deed) : noL (deedD d) = true := by
  cases d with
  | call x r => simp only [deedD, noL, noLAll, noL_row, Bool.and_true]
  | whisper ns r => simp only [deedD, noL, noLAll, noL_row, noL_strsD, Bool.and_true]
  | meet ns => simp only [deedD, noL, noLAll, noL_strsD, Bool.and_true]
  | hide => rfl
  | change k r => simp only [deedD, noL, noLAll, noL_row, Bool.and_true]
  | come x rs =>
    have h := noL_rows rs
    simp only [deedD, noL, noLAll, h, Bool.and_true]
  | go x => simp only [deedD, noL, noLAll, Bool.and_true]
theorem noL_deeds : ∀ ds : List Deed, noLAll (ds.map deedD) = true
  | [] => rfl
  | d :: ds => by simp only [List.map_cons, noLAll, noL_deed, Bool.true_and]; exact noL_deeds ds
/-- a book as it stands: its moments, its deeds, its tries -/
structure BookS where
  made : PyData
  moms : List Mom
  deeds : List Deed
  trials : List PyData
  amid : Bool
def MomsAt (K : PySem.W.Frag) (mg : Str → Option Value) (H : Hp) : List V → List Mom → Prop
  | [], [] => True
  | v :: vs, m :: ms => (∃ a, v = .ref a ∧ MomAt K mg H a m) ∧ MomsAt K mg H vs ms
  | _, _ => False
structure BookAt (K : PySem.W.Frag) (mg : Str → Option Value) (H : Hp) (b : Addr) (q : BookS) : Prop where
  ex : ∃ dx w t u v vs, H b = some (.ins (adr mg "Book") dx (bookF w t u v q.amid)) ∧ SqT K H t vs ∧ MomsAt K mg H vs q.moms ∧ Dp K H (.ref u) (.tuple (q.deeds.map deedD)) ∧ Dp K H (.ref w) q.made ∧ Dp K H (.ref v) (.tuple q.trials)
  nd : noL q.made = true ∧ noLAll q.trials = true
  len : q.moms.length = q.deeds.length + 1
/-! ### what moves nothing of them -/
/-- tuples stand, moments stand -/
structure Mv (mg : Str → Option Value) (H H' : Hp) : Prop where
  tk : Tk H H'
  mo : ∀ a dx p n c h, H a = some (.ins (adr mg "Moment") dx (momF p n c h)) → H' a = some (.ins (adr mg "Moment") dx (momF p n c h))
section
variable {K : PySem.W.Frag} {mg : Str → Option Value} {H H' H'' : Hp} {a b : Addr} {m : Mom} {q : BookS}
theorem Mv.refl : Mv mg H H := ⟨Tk.refl _, fun _ _ _ _ _ _ h => h⟩
theorem Mv.of (s : Same H H') : Mv mg H H' := ⟨Tk.of s, fun _ _ _ _ _ _ h => s _ _ h⟩
theorem Mv.trans (x : Mv mg H H') (y : Mv mg H' H'') : Mv mg H H'' := ⟨x.tk.trans y.tk, fun a dx p n c h e => y.mo a dx p n c h (x.mo a dx p n c h e)⟩
theorem RowsAt.tk {a : Addr} {rs : List (List Int)} (t : Tk H H') (h : RowsAt K H a rs) : RowsAt K H' a rs := by
  obtain ⟨ws, e, d⟩ := h
  exact ⟨ws, t _ _ _ e, dpAll_tk t _ _ (noL_rows _) d⟩
theorem noL_handsT (hs : List (Str × List (List Int))) : noL (.tuple (hs.map handD)) = true := by
  simp only [noL]
  exact noL_hands hs
theorem MomAt.mv (x : Mv mg H H') (h : MomAt K mg H a m) : MomAt K mg H' a m := by
  obtain ⟨dx, c, hh, e, r, d⟩ := h
  exact ⟨dx, c, hh, x.mo _ _ _ _ _ _ e, r.tk x.tk, dp_tk x.tk _ _ (noL_handsT _) d⟩
theorem MomAt.same (s : Same H H') (h : MomAt K mg H a m) : MomAt K mg H' a m := h.mv (.of s)
theorem MomsAt.mv (x : Mv mg H H') : ∀ {vs : List V} {ms : List Mom}, MomsAt K mg H vs ms → MomsAt K mg H' vs ms
  | [], [], _ => trivial
  | v :: vs, m :: ms, ⟨⟨a, e, h⟩, r⟩ => ⟨⟨a, e, h.mv x⟩, MomsAt.mv x r⟩
  | [], _ :: _, h => h.elim
  | _ :: _, [], h => h.elim
theorem MomsAt.len : ∀ {vs : List V} {ms : List Mom}, MomsAt K mg H vs ms → vs.length = ms.length
  | [], [], _ => rfl
  | v :: vs, m :: ms, ⟨_, r⟩ => by rw [List.length_cons, List.length_cons, MomsAt.len r]
  | [], _ :: _, h => h.elim
  | _ :: _, [], h => h.elim
theorem MomsAt.get : ∀ {vs : List V} {ms : List Mom} {i : Nat} {m : Mom}, MomsAt K mg H vs ms → ms[i]? = some m → ∃ a, vs[i]? = some (.ref a) ∧ MomAt K mg H a m
  | [], [], _, _, _, h => by simp at h
  | v :: vs, m :: ms, 0, m', ⟨⟨a, e, h⟩, _⟩, g => by
    cases g
    exact ⟨a, by rw [e]; rfl, h⟩
  | v :: vs, m :: ms, i + 1, m', ⟨_, r⟩, g => by
    obtain ⟨a, e, h⟩ := MomsAt.get (i := i) (m := m') r (by simpa using g)
    exact ⟨a, by simpa using e, h⟩
  | [], _ :: _, _, _, h, _ => h.elim
  | _ :: _, [], _, _, h, _ => h.elim
theorem MomsAt.append : ∀ {vs vs' : List V} {ms ms' : List Mom}, MomsAt K mg H vs ms → MomsAt K mg H vs' ms' → MomsAt K mg H (vs ++ vs') (ms ++ ms')
  | [], _, [], _, _, h => h
  | v :: vs, _, m :: ms, _, ⟨e, r⟩, h => ⟨e, MomsAt.append r h⟩
  | [], _, _ :: _, _, h, _ => h.elim
  | _ :: _, _, [], _, h, _ => h.elim
theorem MomsAt.take : ∀ {vs : List V} {ms : List Mom} (i : Nat), MomsAt K mg H vs ms → MomsAt K mg H (vs.take i) (ms.take i)
  | _, _, 0, _ => by simp [MomsAt]
  | [], [], i + 1, _ => by simp [MomsAt]
  | v :: vs, m :: ms, i + 1, ⟨e, r⟩ => by
    rw [List.take_succ_cons, List.take_succ_cons]
    exact ⟨e, MomsAt.take i r⟩
  | [], _ :: _, _ + 1, h => h.elim
  | _ :: _, [], _ + 1, h => h.elim
theorem noL_tup {ds : List PyData} (h : noLAll ds = true) : noL (.tuple ds) = true := by
  simp only [noL]
  exact h
theorem BookAt.mv (x : Mv mg H H') (hb : ∀ o, H b = some o → H' b = some o) (h : BookAt K mg H b q) : BookAt K mg H' b q := by
  obtain ⟨⟨dx, w, t, u, v, vs, e, h1, h2, h3, h4, h5⟩, nd, len⟩ := h
  exact ⟨⟨dx, w, t, u, v, vs, hb _ e, x.tk _ _ _ h1, h2.mv x, dp_tk x.tk _ _ (noL_tup (noL_deeds _)) h3, dp_tk x.tk _ _ nd.1 h4, dp_tk x.tk _ _ (noL_tup nd.2) h5⟩, nd, len⟩
theorem BookAt.same (s : Same H H') (h : BookAt K mg H b q) : BookAt K mg H' b q := h.mv (.of s) fun o e => s _ _ e
theorem BookAt.at_ (h : BookAt K mg H b q) : ∃ dx fs, H b = some (.ins (adr mg "Book") dx fs) ∧ ∀ f : Str, ¬ f = "amid" → ¬ f = "trials" → ¬ f = "done" → ¬ f = "moments" → ¬ f = "made" → fs.lookup f = none := by
  obtain ⟨⟨dx, w, t, u, v, vs, e, _⟩, _⟩ := h
  exact ⟨dx, _, e, fun f h1 h2 h3 h4 h5 => bookF_none h1 h2 h3 h4 h5⟩
/-- a store into the book alone -/
def Xc (b : Addr) (H H' : Hp) : Prop := ∀ a o, H a = some o → a ≠ b → H' a = some o
theorem Xc.refl : Xc b H H := fun _ _ h _ => h
theorem Xc.of (s : Same H H') : Xc b H H' := fun _ _ h _ => s _ _ h
theorem Xc.trans (x : Xc b H H') (y : Xc b H' H'') : Xc b H H'' := fun a o h n => y a o (x a o h n) n
theorem Xc.mvI {C dx : Addr} {fs : List (Str × V)} (e : H b = some (.ins C dx fs)) (np : fs.lookup ("p" : Str) = none) (x : Xc b H H') : Mv mg H H' := by
  refine ⟨fun K a xs h => ?_, fun a dx' p n c h e' => ?_⟩
  · rcases h with (h | ⟨o, h⟩) | h
    · exact .inl (.inl (x _ _ h fun z => by rw [z, e] at h; cases h))
    · exact .inl (.inr ⟨o, x _ _ h fun z => by rw [z, e] at h; cases h⟩)
    · exact .inr h
  · refine x _ _ e' fun z => ?_
    rw [z, e] at e'
    have e2 := congrArg (fun o => match o with | some (.ins _ _ fs) => List.lookup ("p" : Str) fs | _ => none) e'
    have e2 : fs.lookup ("p" : Str) = (momF p n c h).lookup ("p" : Str) := e2
    rw [momF_p, np] at e2
    cases e2
theorem Xc.mv {C dx : Addr} {w t u v : Addr} {am : Bool} (e : H b = some (.ins C dx (bookF w t u v am))) (x : Xc b H H') : Mv mg H H' :=
  x.mvI e (bookF_none (by decide +kernel) (by decide +kernel) (by decide +kernel) (by decide +kernel) (by decide +kernel))
theorem BookAt.xc (h : BookAt K mg H b q) (x : Xc b H H') : Mv mg H H' := by
  obtain ⟨⟨dx, w, t, u, v, vs, e, _⟩, _⟩ := h
  exact x.mv e
/-- a deed more -/
def BookS.push (q : BookS) (m : Mom) (d : Deed) : BookS := { q with moms := q.moms ++ [m], deeds := q.deeds ++ [d] }
end
/-- which moment is asked for -/
def AtIdx (q : BookS) (v : V) (i : Nat) : Prop := i < q.moms.length ∧ (v = .non ∧ i + 1 = q.moms.length ∨ v = .int (i : Int))
end OC
set_option Elab.async false
set_option linter.all false
set_option maxRecDepth 100000
set_option maxHeartbeats 4000000
/-! xs.extend(t), t any tuple -/
namespace PySem
open SeqRoads2 AutoSeq1
theorem oc_extend_tup {l b : Addr} {xs ys : Array Value} {n n2 : Nat} {dd : Option Addr} {sl : Array (Option Value)} (h1 : ¬(!xs.isEmpty && Builtin.List.listTooLong (xs.size + ys.size)) = true) (h2 : xs.size ≤ sizeLine) (h3 : xs.size + ys.size ≤ sizeLine + 1) :
    Meets (Builtin.«list.extend» ⟨[.ref l, .ref b], []⟩) (fun _ R s => s.heap.get? l = some { cls := .type "list", dict := none, data := .seq xs n, slots := #[] } ∧ s.heap.get? b = some { cls := .type "tuple", dict := dd, data := .seq ys n2, slots := sl } ∧
      R (.ok (.ret Value.none)) { s with heap := s.heap.update l (Obj.mapSeq fun x => x ++ ys), toks := s.toks }) := by
  refine .of_wp fun prog w A R s h => ?_
  obtain ⟨hp, g, d, tk, os⟩ := s
  obtain ⟨hl, hb, h⟩ := h
  have f2 := sub_tuple_tuple
  have f4 := sub_tuple_list
  have big : (xs ++ ys).size ≤ sizeLine + 1 := by rw [Array.size_append]; exact h3
  wp_walk using (wpAny_updateSeq hl rfl (hz := h2) (_hz' := big)), wpAny_loadPart' hl, wpAny_loadPart' hb
  exact ⟨_, rfl, h⟩
end PySem
namespace OC
open PySem PySem.Spec PyProof.Rows L2
def rExtT (K : PySem.W.Frag) : V → List V → Hp → VK → Prop := fun x vs H Q => ∃ l b xs zs, x = .ref l ∧ vs = [.ref b] ∧ H l = some (.lst xs) ∧ SqT K H b zs ∧ xs.length + zs.length ≤ sizeLine ∧ Q .non (upd H l (.lst (xs ++ zs)))
theorem mt_extT {X : Cx} : MtM X "list.extend" (rExtT X.K) := by
  intro pins s σ H x vs v us Q I rx rv h
  obtain ⟨l, b, xs, zs, rfl, rfl, hH, hB, hz, q⟩ := h
  cases rx
  obtain ⟨u, rfl, ru⟩ := rv.one
  cases ru
  obtain ⟨z, its, n, r, hl, e⟩ := I.lstM hH
  obtain ⟨its2, r2, pl, z2⟩ := I.tuple hB
  obtain ⟨⟨cls, dd, dt, sl⟩, ho, hc, n2, hd⟩ := pl
  simp only at hc hd
  subst hc hd
  have hl2 := r2.length
  have sz : its.toArray.size + its2.toArray.size ≤ sizeLine := by rw [List.size_toArray, List.size_toArray]; omega
  refine call_meets F.slot_list_extend ⟨_, e, rfl⟩ F.entry_list_extend (F.args_list_extend_2 _ _) (oc_extend_tup (by rw [notLongL sz, Bool.and_false]; exact Bool.false_ne_true) (by rw [List.size_toArray]; omega) (by omega)) ⟨e, ho, ?_⟩
  refine ⟨.non, _, I.lset (its' := its ++ its2) hH e (by simp) (r.append r2) ?_, rfl, q⟩
  rw [List.length_append]
  omega
end OC
set_option Elab.async false
set_option linter.all false
set_option maxRecDepth 100000
set_option maxHeartbeats 4000000
/-! methods within a comprehension: the reading must not name the block -/
set_option Elab.async false
set_option linter.all false
set_option maxRecDepth 100000
set_option maxHeartbeats 4000000
/-! what a book's calls mean; what moves no book -/
namespace OC
open PySem PySem.Spec PyProof.Rows L2
section
variable {K : PySem.W.Frag} {mg : Str → Option Value} {H H' H'' : Hp} {b d c : Addr} {t : Int} {q : BookS}
theorem Mv.kept (D : Deck H d c t) (k : Kept d c H H') : Mv mg H H' := by
  refine ⟨Tk.kept D k, fun a dx p n c' h e => k _ _ e (fun z => ?_) (fun z => ?_)⟩
  · rw [z, D.hd] at e; cases e
  · obtain ⟨cells, h1, _⟩ := D.hc
    rw [z, h1] at e; cases e
theorem BookAt.ins (h : BookAt K mg H b q) : ∃ dx fs, H b = some (.ins (adr mg "Book") dx fs) := by
  obtain ⟨⟨dx, w, t, u, v, vs, e, _⟩, _⟩ := h
  exact ⟨dx, _, e⟩
theorem BookAt.kept (D : Deck H d c t) (k : Kept d c H H') (h : BookAt K mg H b q) : BookAt K mg H' b q := by
  obtain ⟨dx, fs, e⟩ := h.ins
  obtain ⟨cells, h1, _⟩ := D.hc
  refine h.mv (.kept D k) fun o eo => k _ _ eo (fun z => ?_) (fun z => ?_)
  · rw [z, D.hd] at e; cases e
  · rw [z, h1] at e; cases e
theorem Deck.xc (D : Deck H d c t) (B : BookAt K mg H b q) (x : Xc b H H') : Deck H' d c t := by
  obtain ⟨dx, fs, e⟩ := B.ins
  obtain ⟨hd, ⟨cells, h1, h2⟩, n, t0⟩ := D
  exact ⟨x _ _ hd (fun z => by rw [z, e] at hd; cases hd), ⟨cells, x _ _ h1 (fun z => by rw [z, e] at h1; cases h1), h2⟩, n, t0⟩
theorem Tabs.xc {T : List (Addr × Str)} (h : LamX.Tabs T H) (B : BookAt K mg H b q) (x : Xc b H H') : LamX.Tabs T H' := fun p hp => by
  obtain ⟨dx, fs, e⟩ := B.ins
  obtain ⟨ps, h1, h2, h3⟩ := h p hp
  refine ⟨ps, x _ _ h1 (fun z => by rw [z, e] at h1; cases h1), h2, fun pos cv hc => ?_⟩
  obtain ⟨c, rfl, hc2⟩ := h3 pos cv hc
  exact ⟨c, rfl, x _ _ hc2 fun z => by rw [z, e] at hc2; cases hc2⟩
end
/-! ### what is known behind calls -/
section
variable {B : Nat} {m : Mom} {r : List Int} {x : Str} {ns : List Str}
theorem sel_in {hs : List (Str × List (List Int))} {r : List Int} : r ∈ selR ns hs ↔ ∃ h ∈ hs, h.1 ∈ ns ∧ r ∈ h.2 := by
  unfold selR
  rw [List.mem_flatMap]
  constructor
  · rintro ⟨h, mh, hr⟩
    by_cases e : h.1 ∈ ns
    · rw [if_pos e] at hr
      exact ⟨h, mh, e, hr⟩
    · rw [if_neg e] at hr
      cases hr
  · rintro ⟨h, mh, e, hr⟩
    exact ⟨h, mh, by rw [if_pos e]; exact hr⟩
/-- what hands know of a moment is their room in its stand -/
theorem room_known (M : MomOk B m) (hne : ∃ x ∈ ns, x ∈ m.hands.map Prod.fst) : plainR m.p m.n (heardM m ns) = roomR m.p m.n m.openM m.roomsM ns := by
  obtain ⟨x, mx, hx⟩ := hne
  have e0 : heardM m ns = selR ns m.hands := by
    unfold heardM
    rw [if_neg fun z => by rw [z] at mx; cases mx]
  rw [e0]
  obtain ⟨hx', mh', rfl⟩ := List.mem_map.mp hx
  have S := M.five
  have ok1 : RowsOk m.p m.n (selR ns m.hands) := sel_ok M.okh
  refine plain_same M.fld ok1 (room_rows S ns) (fun r hr => ?_) (fun r hr => ?_)
  · obtain ⟨h, mh, hn, hr⟩ := sel_in.mp hr
    refine InR.right (InR.mono (fun z hz => InR.mem (sel_in.mpr ⟨(h.1, plainR m.p m.n h.2), List.mem_map_of_mem mh, hn, hz⟩)) ?_)
    exact (InR.plain M.fld (M.okh h mh)).mpr (InR.mem hr)
  · rcases List.mem_append.mp hr with hr | hr
    · have h1 : InR m.p m.called r := (InR.plain M.fld M.okc).mp (InR.mem hr)
      refine InR.mono (fun z hz => ?_) h1
      exact InR.mono (fun y hy => InR.mem (sel_in.mpr ⟨hx', mh', mx, hy⟩)) (M.inn hx' mh' z hz)
    · obtain ⟨h, mh, hn, hr⟩ := sel_in.mp hr
      obtain ⟨g, mg', rfl⟩ := List.mem_map.mp mh
      have h1 : InR m.p g.2 r := (InR.plain M.fld (M.okh g mg')).mp (InR.mem hr)
      exact InR.mono (fun y hy => InR.mem (sel_in.mpr ⟨g, mg', hn, hy⟩)) h1
end
end OC
set_option Elab.async false
set_option linter.all false
set_option maxRecDepth 100000
set_option maxHeartbeats 4000000
/-! one number more: rows with a 0 behind -/
namespace OC
open PySem PySem.Spec PyProof.Rows L2
def ext0 (r : List Int) : List Int := r ++ [0]
section
variable {q : Nat} [NeZero q]
theorem toV_ext (r : List Int) : toV (q := q) (ext0 r) = toV r := by
  funext i
  unfold toV ext0
  congr 1
  rw [List.getD_eq_getElem?_getD, List.getD_eq_getElem?_getD]
  by_cases h : i < r.length
  · rw [List.getElem?_append_left h]
  · rw [List.getElem?_append_right (by omega), List.getElem?_eq_none (l := r) (by omega)]
    by_cases h2 : i - r.length = 0
    · rw [h2]; rfl
    · rw [List.getElem?_eq_none (by rw [List.length_singleton]; omega)]
theorem mapV_ext (rs : List (List Int)) : (rs.map ext0).map (toV (q := q)) = rs.map toV := by
  rw [List.map_map]
  exact List.map_congr_left fun r _ => toV_ext r
end
theorem InR.ext {p : Int} {rs : List (List Int)} {r : List Int} : InR p (rs.map ext0) r ↔ InR p rs r := by
  constructor
  · intro h q z e
    have := h q z e
    unfold Mk at this ⊢
    rw [mapV_ext] at this
    exact this
  · intro h q z e
    have := h q z e
    unfold Mk at this ⊢
    rw [mapV_ext]
    exact this
end OC
set_option Elab.async false
set_option linter.all false
set_option maxRecDepth 100000
set_option maxHeartbeats 4000000
/-! a book beside drawn numbers; its methods' names are no fields -/
namespace OC
open PySem PySem.Spec PyProof.Rows L2
def bookMs : List Str := ["call", "whisper", "meet", "hide", "change", "come", "go", "back", "tried", "perform_all", "perform", "now", "refuse_amid", "moment_at", "moment_of", "names", "heard", "known", "common", "knows", "why", "learned", "idle", "is_idle", "its_deeds", "stand", "log", "p"]
theorem book_ms : ∀ f ∈ bookMs, ¬ f = "amid" ∧ ¬ f = "trials" ∧ ¬ f = "done" ∧ ¬ f = "moments" ∧ ¬ f = "made" := by decide +kernel
section
variable {K : PySem.W.Frag} {mg : Str → Option Value} {H H' H'' : Hp} {b d c e : Addr} {t : Int} {q : BookS}
theorem BookAt.noF (h : BookAt K mg H b q) : ∃ dx fs, H b = some (.ins (adr mg "Book") dx fs) ∧ ∀ f ∈ bookMs, fs.lookup f = none := by
  obtain ⟨dx, fs, e, h⟩ := h.at_
  refine ⟨dx, fs, e, fun f mf => ?_⟩
  obtain ⟨h1, h2, h3, h4, h5⟩ := book_ms f mf
  exact h f h1 h2 h3 h4 h5
theorem has_one {B : Nat} {m : Mom} {r : List Int} {h : Str × List (List Int)} (M : MomOk B m) (ok : RowsOk m.p m.n [r]) (mh : h ∈ m.hands) (i : InR m.p h.2 r) : hasR m.p m.n (plainR m.p m.n (heardM m [h.1])) r = true := by
  have e0 : heardM m [h.1] = selR [h.1] m.hands := by
    unfold heardM
    rw [if_neg fun z => by cases z]
  rw [e0]
  refine (hasR_plain M.fld (sel_ok M.okh) ok).mpr (InR.mono (fun z hz => InR.mem (sel_in.mpr ⟨h, mh, List.mem_singleton_self _, hz⟩)) i)
end
end OC
set_option Elab.async false
set_option linter.all false
set_option maxRecDepth 100000
set_option maxHeartbeats 4000000
/-! what the other deeds make of a moment -/
namespace OC
open PySem PySem.Spec PyProof.Rows L2 Lin
/-! ### a meeting -/
/-- the rows of the room that are new behind the rows -/
def newsR (p : Int) (n : Nat) (rows room : List (List Int)) : List (List Int) := ((needR p n (rows ++ room)).filter fun k => decide (rows.length ≤ k)).map fun k => (rows ++ room).getD k []
section
variable {p : Int} {n : Nat} {rows room : List (List Int)}
theorem news_mem {r : List Int} (h : r ∈ newsR p n rows room) : r ∈ room := by
  obtain ⟨k, hk, rfl⟩ := List.mem_map.mp h
  obtain ⟨h1, h2⟩ := List.mem_filter.mp hk
  have h2 := of_decide_eq_true h2
  have h3 := needR_lt h1
  rw [List.length_append] at h3
  rw [List.getD_eq_getElem?_getD, List.getElem?_append_right h2, List.getElem?_eq_getElem (by omega)]
  exact List.getElem_mem _
theorem news_len : (newsR p n rows room).length ≤ room.length := by
  unfold newsR needR
  rw [List.length_map, List.filter_filter, List.length_append, List.range_add, List.filter_append]
  have e1 : (List.range rows.length).filter (fun a => decide (rows.length ≤ a) && grows p n (rows ++ room) a) = [] := by
    refine List.filter_eq_nil_iff.mpr fun k hk => ?_
    have hk := List.mem_range.mp hk
    rw [decide_eq_false (by omega)]
    simp
  rw [e1, List.nil_append]
  refine Nat.le_trans (List.length_filter_le _ _) ?_
  rw [List.length_map, List.length_range]
  exact Nat.le_refl _
theorem news_ok (h : RowsOk p n room) : RowsOk p n (newsR p n rows room) := fun r hr => h r (news_mem hr)
/-- what is needed of both: of the rows, or new -/
theorem some_split {r : List Int} (h : r ∈ someR p n (rows ++ room)) : r ∈ rows ∨ r ∈ newsR p n rows room := by
  obtain ⟨k, hk, rfl⟩ := List.mem_map.mp h
  by_cases hl : rows.length ≤ k
  · exact .inr (List.mem_map.mpr ⟨k, List.mem_filter.mpr ⟨hk, decide_eq_true hl⟩, rfl⟩)
  · left
    rw [List.getD_eq_getElem?_getD, List.getElem?_append_left (by omega), List.getElem?_eq_getElem (by omega)]
    exact List.getElem_mem _
theorem some_in (F : Fld p) {rs : List (List Int)} (ok : RowsOk p n rs) {r : List Int} (h : InR p rs r) : InR p (someR p n rs) r := fun q z e => by
  subst e
  exact ((someR_all F rs ok).1 _).mpr (h q z rfl)
theorem news_in (F : Fld p) (h1 : RowsOk p n rows) (h2 : RowsOk p n room) {r : List Int} (h : InR p (rows ++ room) r) : InR p (rows ++ newsR p n rows room) r := by
  refine InR.mono (fun z hz => ?_) (some_in F (rowsOk_app h1 h2) h)
  rcases some_split hz with hz | hz
  · exact InR.mem (List.mem_append_left _ hz)
  · exact InR.mem (List.mem_append_right _ hz)
theorem news_plain (F : Fld p) (h1 : RowsOk p n rows) (h2 : RowsOk p n room) : plainR p n (rows ++ newsR p n rows room) = plainR p n (rows ++ room) :=
  plain_same F (rowsOk_app h1 (news_ok h2)) (rowsOk_app h1 h2) (fun r hr => by
    rcases List.mem_append.mp hr with hr | hr
    · exact InR.mem (List.mem_append_left _ hr)
    · exact InR.mem (List.mem_append_right _ (news_mem hr))) fun r hr => news_in F h1 h2 (InR.mem hr)
end
def meetM (m : Mom) (ns : List Str) : Mom := { m with hands := m.hands.map fun h => if h.1 ∈ ns then (h.1, h.2 ++ newsR m.p m.n h.2 (plainR m.p m.n (heardM m ns))) else h }
theorem meetM_names (m : Mom) (ns : List Str) : (meetM m ns).hands.map Prod.fst = m.hands.map Prod.fst := by
  unfold meetM
  rw [List.map_map]
  refine List.map_congr_left fun h _ => ?_
  show (if h.1 ∈ ns then (h.1, h.2 ++ newsR m.p m.n h.2 (plainR m.p m.n (heardM m ns))) else h).1 = h.1
  split <;> rfl
theorem heard_okM {B : Nat} {m : Mom} (M : MomOk B m) (ns : List Str) : RowsOk m.p m.n (heardM m ns) := by
  unfold heardM
  split
  · exact M.okc
  · exact sel_ok M.okh
theorem meetM_ok {B : Nat} {m : Mom} (ns : List Str) (M : MomOk B m) : MomOk (B + 8) (meetM m ns) where
  fld := M.fld
  p1 := M.p1
  n1 := M.n1
  n8 := M.n8
  okc := M.okc
  okh := fun h hh => by
    obtain ⟨x, mx, rfl⟩ := List.mem_map.mp hh
    show RowsOk m.p m.n (if x.1 ∈ ns then (x.1, x.2 ++ newsR m.p m.n x.2 (plainR m.p m.n (heardM m ns))) else x).2
    split
    · exact rowsOk_app (M.okh x mx) (news_ok (PFR.of_plain M.fld (heard_okM M ns)).rows)
    · exact M.okh x mx
  inn := fun h hh z hz => by
    obtain ⟨x, mx, rfl⟩ := List.mem_map.mp hh
    show InR m.p (if x.1 ∈ ns then (x.1, x.2 ++ newsR m.p m.n x.2 (plainR m.p m.n (heardM m ns))) else x).2 z
    split
    · exact InR.left (M.inn x mx z hz)
    · exact M.inn x mx z hz
  few := by unfold meetM; rw [List.length_map]; exact M.few
  many := by unfold meetM; rw [List.length_map]; exact M.many
  srt := by rw [meetM_names]; exact M.srt
  nd := by rw [meetM_names]; exact M.nd
  nm := by rw [meetM_names]; exact M.nm
  lc := Nat.le_trans M.lc (Nat.le_add_right _ _)
  lh := fun h hh => by
    obtain ⟨x, mx, rfl⟩ := List.mem_map.mp hh
    have := M.lh x mx
    have l1 := news_len (p := m.p) (n := m.n) (rows := x.2) (room := plainR m.p m.n (heardM m ns))
    have l2 := PFR.len M.fld (PFR.of_plain M.fld (heard_okM M ns))
    have n8 := M.n8
    show (if x.1 ∈ ns then (x.1, x.2 ++ newsR m.p m.n x.2 (plainR m.p m.n (heardM m ns))) else x).2.length ≤ B + 8
    split
    · show (x.2 ++ _).length ≤ B + 8
      rw [List.length_append]
      omega
    · omega
/-! ### a change -/
/-! ### a hand comes, a hand goes -/
end OC
set_option Elab.async false
set_option linter.all false
set_option maxRecDepth 100000
set_option maxHeartbeats 4000000
/-! rows of some hands, hand by hand -/
namespace OC
open PySem PySem.Spec PyProof.Rows L2
theorem selR_cons (ns : List Str) (h : Str × List (List Int)) (hs : List (Str × List (List Int))) : selR ns (h :: hs) = (if h.1 ∈ ns then h.2 else []) ++ selR ns hs := rfl
theorem selR_out {x : Str} : ∀ {hs : List (Str × List (List Int))}, x ∉ hs.map Prod.fst → selR [x] hs = []
  | [], _ => rfl
  | h :: hs, n => by
    rw [List.map_cons] at n
    have n1 : ¬ h.1 ∈ [x] := fun z => n (by rw [← List.mem_singleton.mp z]; exact List.mem_cons_self)
    rw [selR_cons, if_neg n1, selR_out fun z => n (List.mem_cons_of_mem _ z)]
    rfl
end OC
set_option Elab.async false
set_option linter.all false
set_option maxRecDepth 100000
set_option maxHeartbeats 4000000
/-! what is new, row by row -/
set_option Elab.async false
set_option linter.all false
set_option maxRecDepth 100000
set_option maxHeartbeats 4000000
/-! a meeting, half done -/
set_option Elab.async false
set_option linter.all false
set_option maxRecDepth 100000
set_option maxHeartbeats 4000000
/-! behind a meeting all who met know the same, and a second one tells nothing -/
namespace OC
open PySem PySem.Spec PyProof.Rows L2
section
variable {B : Nat} {m : Mom} {ns : List Str}
theorem heard_mem (M : MomOk B m) {x : Str} (mx : x ∈ ns) {h : Str × List (List Int)} (mh : h ∈ m.hands) (ex : h.1 = x) {r : List Int} (mr : r ∈ h.2) : r ∈ heardM m ns := by
  unfold heardM
  rw [if_neg fun z => by rw [z] at mx; cases mx]
  exact sel_in.mpr ⟨h, mh, by rw [ex]; exact mx, mr⟩
/-- who met knows what all together knew -/
theorem meet_known (M : MomOk B m) {h : Str × List (List Int)} (mh : h ∈ m.hands) (mx : h.1 ∈ ns) : plainR m.p m.n (h.2 ++ newsR m.p m.n h.2 (plainR m.p m.n (heardM m ns))) = plainR m.p m.n (heardM m ns) := by
  have okH := heard_okM M ns
  have okP := (PFR.of_plain M.fld okH).rows
  rw [news_plain M.fld (M.okh h mh) okP]
  refine plain_same M.fld (rowsOk_app (M.okh h mh) okP) okH (fun r hr => ?_) fun r hr => ?_
  · rcases List.mem_append.mp hr with hr | hr
    · exact InR.mem (heard_mem M mx mh rfl hr)
    · exact (InR.plain M.fld okH).mp (InR.mem hr)
  · exact InR.right ((InR.plain M.fld okH).mpr (InR.mem hr))
end
end OC
set_option Elab.async false
set_option linter.all false
set_option maxRecDepth 100000
set_option maxHeartbeats 2000000
/-! t[::2] of a tuple -/
namespace OC
open PySem PySem.Spec PyProof.Rows L2 HT
def evens {α : Type} : List α → List α
  | [] => []
  | [x] => [x]
  | x :: _ :: r => x :: evens r
theorem evens_sub {α : Type} : ∀ xs : List α, (evens xs).Sublist xs
  | [] => .slnil
  | [_] => List.Sublist.refl _
  | x :: y :: r => ((evens_sub r).cons y).cons_cons x
theorem evens_len {α : Type} (xs : List α) : (evens xs).length ≤ xs.length := (evens_sub xs).length_le
theorem evens_map {α β : Type} (f : α → β) : ∀ xs : List α, evens (xs.map f) = (evens xs).map f
  | [] => rfl
  | [_] => rfl
  | x :: y :: r => by
    show f x :: evens (r.map f) = f x :: (evens r).map f
    rw [evens_map f r]
theorem evens_pick {α : Type} : ∀ xs : List α, evens xs = (List.range ((xs.length + 1) / 2)).filterMap fun m => xs[m * 2]?
  | [] => by simp [evens]
  | [x] => by simp [evens]
  | x :: y :: r => by
    have e : ((x :: y :: r).length + 1) / 2 = (r.length + 1) / 2 + 1 := by
      rw [List.length_cons, List.length_cons]
      omega
    rw [e, List.range_succ_eq_map, List.filterMap_cons]
    show x :: evens r = x :: _
    rw [evens_pick r, List.filterMap_map]
    congr 2
    funext m
    show r[m * 2]? = (x :: y :: r)[(m + 1) * 2]?
    rw [show (m + 1) * 2 = m * 2 + 1 + 1 by omega, List.getElem?_cons_succ, List.getElem?_cons_succ]
theorem evens_vals : ∀ {vs : List V} {us : List Value}, Vals vs us → Vals (evens vs) (evens us)
  | [], _, h => by cases h; exact .nil
  | [_], _, h => by
    cases h with
    | cons h1 h2 => cases h2; exact .cons h1 .nil
  | _ :: _ :: r, _, h => by
    cases h with
    | cons h1 h2 =>
      cases h2 with
      | cons h2 h3 => exact .cons h1 (evens_vals h3)
section
variable {prog : Program} {w : World} {A : Around} {E : Value → Shared → Prop} {s : Shared}
theorem pick_even (xs : Array Value) : ((List.range ((xs.size + 1) / 2)).filterMap fun (m : Nat) => xs[((0 : Int) + (m : Int) * 2).toNat]?).toArray = (evens xs.toList).toArray := by
  congr 1
  rw [evens_pick, Array.length_toList]
  congr 1
  funext m
  rw [show ((0 : Int) + (m : Int) * 2).toNat = m * 2 by omega, Array.getElem?_toList]
theorem slice_even {sl : Addr} {vl vu vs : Value} {n : Nat} {Q : Int × Int × Nat → Shared → Prop} (hs : s.heap.IsSliceOf sl vl vu vs) (pl : IsPart vl none) (pu : IsPart vu none) (ps : IsPart vs (some 2))
    (h : Q (0, 2, (n + 1) / 2) s) : wpAny (model prog w) A (Builtin.Slice.sliceApplied (.ref sl) (pure (n : Int))) Q E s := by
  obtain ⟨os, hos, hcs, hds⟩ := id hs
  unfold Builtin.Slice.sliceApplied Builtin.Slice.sliceFields
  apply wpAny_bind
  apply wpAny_bind
  apply wpAny_field hos hds (x := vl) rfl
  apply wpAny_bind
  apply wpAny_field hos hds (x := vu) rfl
  apply wpAny_bind
  apply wpAny_field hos hds (x := vs) rfl
  apply wpAny_pure
  apply wpAny_bind
  apply slicePart_ ps
  show wpAny _ _ (if ((2 : Int) == 0) = true then _ else _) _ _ s
  rw [if_neg (by decide)]
  apply wpAny_bind
  apply slicePart_ pl
  apply wpAny_bind
  apply slicePart_ pu
  apply wpAny_bind
  apply wpAny_pure
  have e1 : Builtin.Slice.sliceAdjust none none 2 (n : Int) = (0, (n : Int)) := rfl
  have e2 : Builtin.Slice.slicePlaces 0 (n : Int) 2 = (n + 1) / 2 := by
    unfold Builtin.Slice.slicePlaces
    rw [if_pos (by decide)]
    by_cases hn : n = 0
    · subst hn
      decide
    · rw [if_pos (by omega)]
      omega
  show wpAny _ _ (match Builtin.Slice.sliceAdjust none none 2 (n : Int) with | (lo, hi) => pure (lo, (2 : Int), Builtin.Slice.slicePlaces lo hi 2)) _ _ s
  rw [e1]
  show wpAny _ _ (pure ((0 : Int), (2 : Int), Builtin.Slice.slicePlaces 0 (n : Int) 2)) _ _ s
  rw [e2]
  exact wpAny_pure h
theorem getItem_tuple_even {t sl : Addr} {items : Array Value} {vl vu vs : Value} {Q : Value → Shared → Prop} (ht : IsTup s.heap t items) (hs : s.heap.IsSliceOf sl vl vu vs) (pl : IsPart vl none) (pu : IsPart vu none) (ps : IsPart vs (some 2))
    (h : Q (.ref s.heap.objs.size) { s with heap := s.heap.push { cls := .type "tuple", data := .seq (evens items.toList).toArray } }) (hsz : items.size ≤ sizeLine) : wpAny (model prog w) A (getItem (.ref t) (.ref sl)) Q E s := by
  have hz : sizeOk (.seq (evens items.toList).toArray) := by
    show (evens items.toList).toArray.size ≤ sizeLine
    rw [List.size_toArray]
    exact Nat.le_trans (evens_len _) (by rw [Array.length_toList]; exact hsz)
  obtain ⟨os, hos, hcs, hds⟩ := id hs
  have hTs : s.TypeIs (.ref sl) "slice" := ⟨os, hos, hcs⟩
  unfold getItem
  try with_reducible apply wpAny_holding
  try (apply wpAny_bind; apply wpAny_pure)
  apply wpAny_bind
  apply wpAny_sequenceKey ht.typeIs (by decide)
  apply wpAny_bind
  apply wpAny_callSpecial?_slot (name := Str.ofString "__getitem__") ht.typeIs PyProof.Rows.slot_tuple_getitem
  refine wpAny_call_entry PyProof.Rows.slot_tuple_getitem ht.typeIs entry_tuple_getitem ?_ (args_tuple_getitem _ _)
  show wpAny _ _ (Builtin.Tuple.tupleItemsOf (.ref t) >>= _) _ _ s
  apply wpAny_bind
  apply tupleItemsOf_ ht
  apply wpAny_bind
  apply wpAny_typeOf hTs
  rw [if_pos (by decide)]
  apply wpAny_bind
  apply slice_even hs pl pu ps
  have hno : ¬ (((0 : Int) == 0 && (2 : Int) == 1 && (items.size + 1) / 2 == items.size) = true) := by simp
  show wpAny _ _ (if ((0 : Int) == 0 && (2 : Int) == 1 && (items.size + 1) / 2 == items.size) = true then _ else _) _ _ s
  rw [if_neg hno, pick_even]
  first
    | exact wpAny_bind (m := Builtin.Tuple.tupleExact _) (wpAny_newObj_type (wpAny_pure ⟨_, rfl, wpAny_pure h⟩) hz)
    | exact wpAny_bind (wpAny_bind (m := Builtin.Tuple.tupleExact _) (wpAny_newObj_type (wpAny_pure ⟨_, rfl, wpAny_pure h⟩) hz))
    | exact wpAny_bind (m := Builtin.Tuple.tupleExact _) (wpAny_newObj_type (wpAny_bind (wpAny_pure (wpAny_pure ⟨_, rfl, wpAny_pure h⟩))) hz)
    | exact wpAny_bind (wpAny_bind (m := Builtin.Tuple.tupleExact _) (wpAny_newObj_type (wpAny_pure (wpAny_pure ⟨_, rfl, wpAny_pure h⟩)) hz))
end
def tEvenT (K : PySem.W.Frag) (te : TE) : TE := fun σ H Q => te σ H fun x H1 => ∃ a xs, x = .ref a ∧ SqT K H1 a xs ∧ ∀ p, H1 p = none → Q (.ref p) (upd H1 p (.tup (evens xs)))
theorem pe_evenT {X : Cx} {e : Expr} {te : TE} {k : Nat} {p1 p3 pos : Pos} (he : PE X e te) :
    PE X (.Subscript e (.Slice none none (some (.Constant (.int 2) k p1)) p3) pos) (tEvenT X.K te) := by
  constructor
  intro pins s σ H Q I h
  apply Subscript_
  apply thn (he.run pins s σ H _ I h)
  rintro v s1 ⟨x, H1, I1, r1, a, xs, rfl, hx, q⟩
  cases r1
  have part : PO X (some (.Constant (.int 2) k p1)) (tPart (tC (.int 2))) := po_some pe_int
  apply wpAny_Slice
  apply thn (po_none.run pins s1 σ H1 (fun o H2 => o = none ∧ H2 = H1) I1 ⟨rfl, rfl⟩)
  rintro vl s2 ⟨_, _, I2, pl, rfl, rfl⟩
  apply thn (po_none.run pins s2 σ _ (fun o H3 => o = none ∧ H3 = _) I2 ⟨rfl, rfl⟩)
  rintro vu s3 ⟨_, _, I3, pu, rfl, rfl⟩
  apply thn (part.run pins s3 σ _ (fun o H4 => o = some 2 ∧ H4 = _) I3 ⟨2, rfl, rfl, rfl⟩)
  rintro vs s4 ⟨_, _, I4, ps, rfl, rfl⟩
  have I5 := I4.kept (h' := s4.heap.push { cls := .type "slice", data := .fields #[vl, vu, vs] }) (t' := s4.toks) fun b ob q => Heap.get?_push_of_some _ q
  obtain ⟨its, r, ht, hz⟩ := I5.tuple hx
  have hlen := r.length
  show wpAny (model X.prog X.w) X.A (subscriptTail e (.Slice none none (some (.Constant (.int 2) k p1)) p3) (.ref a) (.ref s4.heap.objs.size)) (EP X pins σ Q) X.xe _
  refine tail_any (ops := [.ref a, .ref s4.heap.objs.size]) ht.typeIs (PyProof.Rows.slot_tuple_getitem.lookup) ?_ (by with_unfolding_all rfl)
  refine getItem_tuple_even ht (Heap.IsSliceOf.new _ vl vu vs) pl pu ps ?_ (by rw [List.size_toArray]; omega)
  have J := I5.laid (t' := s4.toks) (o := .tup (evens xs)) (h' := (s4.heap.push { cls := .type "slice", data := .fields #[vl, vu, vs] }).push { cls := .type "tuple", data := .seq (evens its.toArray.toList).toArray }) (fun b ob q => Heap.get?_push_of_some _ q) (Nat.le_refl _) ⟨Nat.le_trans (evens_len _) hz, evens its, evens_vals r, IsTup.new _ _⟩
  exact ⟨.ref _, _, J, rfl, q _ (I5.hok.fresh (Nat.le_refl _))⟩
end OC
set_option Elab.async false
set_option linter.all false
set_option maxRecDepth 100000
set_option maxHeartbeats 4000000
namespace OC
open PySem PySem.Spec PyProof.Rows L2
def topS (i : Nat) : Stmt := PySem.Challenge.pw_opencalls_k79_whole_rooms_alone.main.body.getD i (.Pass ⟨0, 0, 0, 0⟩)
abbrev s_is_name : Stmt := topS 19
abbrev N_is_name : List Str := ["thing", "sign"]
theorem sc_is_name : FnScope N_is_name ["thing"] (defScope s_is_name) := ⟨rfl, rfl, rfl, by decide +kernel, rfl, by decide +kernel, by decide +kernel⟩
abbrev s_is_rising : Stmt := topS 20
abbrev N_is_rising : List Str := ["things", "one", "other"]
theorem sc_is_rising : FnScope N_is_rising ["things"] (defScope s_is_rising) := ⟨rfl, rfl, rfl, by decide +kernel, rfl, by decide +kernel, by decide +kernel⟩
abbrev s_are_names : Stmt := topS 21
abbrev N_are_names : List Str := ["thing", "part"]
theorem sc_are_names : FnScope N_are_names ["thing"] (defScope s_are_names) := ⟨rfl, rfl, rfl, by decide +kernel, rfl, by decide +kernel, by decide +kernel⟩
abbrev s_is_number : Stmt := topS 23
abbrev N_is_number : List Str := ["thing"]
theorem sc_is_number : FnScope N_is_number ["thing"] (defScope s_is_number) := ⟨rfl, rfl, rfl, by decide +kernel, rfl, by decide +kernel, by decide +kernel⟩
abbrev s_is_rest : Stmt := topS 24
abbrev N_is_rest : List Str := ["p", "thing"]
theorem sc_is_rest : FnScope N_is_rest ["p", "thing"] (defScope s_is_rest) := ⟨rfl, rfl, rfl, by decide +kernel, rfl, by decide +kernel, by decide +kernel⟩
abbrev s_contrary : Stmt := topS 25
abbrev N_contrary : List Str := ["p", "a", "b"]
theorem sc_contrary : FnScope N_contrary ["p", "a"] (defScope s_contrary) := ⟨rfl, rfl, rfl, by decide +kernel, rfl, by decide +kernel, by decide +kernel⟩
abbrev s_is_row : Stmt := topS 27
abbrev N_is_row : List Str := ["p", "n", "thing", "part"]
theorem sc_is_row : FnScope N_is_row ["p", "n", "thing"] (defScope s_is_row) := ⟨rfl, rfl, rfl, by decide +kernel, rfl, by decide +kernel, by decide +kernel⟩
abbrev s_added : Stmt := topS 28
abbrev N_added : List Str := ["p", "one", "other", "a", "b"]
theorem sc_added : FnScope N_added ["p", "one", "other"] (defScope s_added) := ⟨rfl, rfl, rfl, by decide +kernel, rfl, by decide +kernel, by decide +kernel⟩
abbrev s_times : Stmt := topS 29
abbrev N_times : List Str := ["p", "a", "row", "rest"]
theorem sc_times : FnScope N_times ["p", "a", "row"] (defScope s_times) := ⟨rfl, rfl, rfl, by decide +kernel, rfl, by decide +kernel, by decide +kernel⟩
abbrev s_check_hand : Stmt := topS 31
abbrev N_check_hand : List Str := ["there", "hand"]
theorem sc_check_hand : FnScope N_check_hand ["there", "hand"] (defScope s_check_hand) := ⟨rfl, rfl, rfl, by decide +kernel, rfl, by decide +kernel, by decide +kernel⟩
abbrev s_check_hands : Stmt := topS 32
abbrev N_check_hands : List Str := ["there", "hands", "least", "hand"]
theorem sc_check_hands : FnScope N_check_hands ["there", "hands", "least"] (defScope s_check_hands) := ⟨rfl, rfl, rfl, by decide +kernel, rfl, by decide +kernel, by decide +kernel⟩
abbrev s_check_row : Stmt := topS 33
abbrev N_check_row : List Str := ["p", "n", "row"]
theorem sc_check_row : FnScope N_check_row ["p", "n", "row"] (defScope s_check_row) := ⟨rfl, rfl, rfl, by decide +kernel, rfl, by decide +kernel, by decide +kernel⟩
abbrev s_is_noughts : Stmt := topS 37
abbrev N_is_noughts : List Str := ["row", "rest"]
theorem sc_is_noughts : FnScope N_is_noughts ["row"] (defScope s_is_noughts) := ⟨rfl, rfl, rfl, by decide +kernel, rfl, by decide +kernel, by decide +kernel⟩
abbrev s_first_place : Stmt := topS 38
abbrev N_first_place : List Str := ["row", "at", "rest"]
theorem sc_first_place : FnScope N_first_place ["row"] (defScope s_first_place) := ⟨rfl, rfl, rfl, by decide +kernel, rfl, by decide +kernel, by decide +kernel⟩
abbrev s_cleared : Stmt := topS 39
abbrev N_cleared : List Str := ["p", "plain", "row", "factor"]
theorem sc_cleared : FnScope N_cleared ["p", "plain", "row"] (defScope s_cleared) := ⟨rfl, rfl, rfl, by decide +kernel, rfl, by decide +kernel, by decide +kernel⟩
abbrev s_left_of : Stmt := topS 40
abbrev N_left_of : List Str := ["p", "room", "row", "plain"]
theorem sc_left_of : FnScope N_left_of ["p", "room", "row"] (defScope s_left_of) := ⟨rfl, rfl, rfl, by decide +kernel, rfl, by decide +kernel, by decide +kernel⟩
abbrev s_widened : Stmt := topS 41
abbrev N_widened : List Str := ["p", "room", "row", "rest", "at", "fresh", "plain"]
theorem sc_widened : FnScope N_widened ["p", "room", "row"] (defScope s_widened) := ⟨rfl, rfl, rfl, by decide +kernel, rfl, by decide +kernel, by decide +kernel⟩
abbrev s_room_of : Stmt := topS 42
abbrev N_room_of : List Str := ["p", "n", "rows", "room", "row"]
theorem sc_room_of : FnScope N_room_of ["p", "n", "rows"] (defScope s_room_of) := ⟨rfl, rfl, rfl, by decide +kernel, rfl, by decide +kernel, by decide +kernel⟩
abbrev s_within : Stmt := topS 43
abbrev N_within : List Str := ["p", "room", "row"]
theorem sc_within : FnScope N_within ["p", "room", "row"] (defScope s_within) := ⟨rfl, rfl, rfl, by decide +kernel, rfl, by decide +kernel, by decide +kernel⟩
abbrev s_joined : Stmt := topS 44
abbrev N_joined : List Str := ["p", "n", "one", "other"]
theorem sc_joined : FnScope N_joined ["p", "n", "one", "other"] (defScope s_joined) := ⟨rfl, rfl, rfl, by decide +kernel, rfl, by decide +kernel, by decide +kernel⟩
abbrev s_shared : Stmt := topS 45
abbrev N_shared : List Str := ["p", "n", "one", "other"]
theorem sc_shared : FnScope N_shared ["p", "n", "one", "other"] (defScope s_shared) := ⟨rfl, rfl, rfl, by decide +kernel, rfl, by decide +kernel, by decide +kernel⟩
abbrev s_across : Stmt := topS 46
abbrev N_across : List Str := ["p", "n", "room", "plain", "firsts", "at"]
theorem sc_across : FnScope N_across ["p", "n", "room"] (defScope s_across) := ⟨rfl, rfl, rfl, by decide +kernel, rfl, by decide +kernel, by decide +kernel⟩
abbrev s_across_at : Stmt := topS 47
abbrev N_across_at : List Str := ["p", "n", "room", "at", "rests", "plain"]
theorem sc_across_at : FnScope N_across_at ["p", "n", "room", "at"] (defScope s_across_at) := ⟨rfl, rfl, rfl, by decide +kernel, rfl, by decide +kernel, by decide +kernel⟩
abbrev s_needed : Stmt := topS 49
abbrev N_needed : List Str := ["p", "n", "rows", "numbers", "room", "number", "row"]
theorem sc_needed : FnScope N_needed ["p", "n", "rows"] (defScope s_needed) := ⟨rfl, rfl, rfl, by decide +kernel, rfl, by decide +kernel, by decide +kernel⟩
abbrev s_names_at : Stmt := topS 52
abbrev N_names_at : List Str := ["moment", "name", "rows"]
theorem sc_names_at : FnScope N_names_at ["moment"] (defScope s_names_at) := ⟨rfl, rfl, rfl, by decide +kernel, rfl, by decide +kernel, by decide +kernel⟩
abbrev s_heard_at : Stmt := topS 53
abbrev N_heard_at : List Str := ["moment", "names", "heard", "name", "rows"]
theorem sc_heard_at : FnScope N_heard_at ["moment", "names"] (defScope s_heard_at) := ⟨rfl, rfl, rfl, by decide +kernel, rfl, by decide +kernel, by decide +kernel⟩
abbrev s_known_at : Stmt := topS 54
abbrev N_known_at : List Str := ["moment", "names"]
theorem sc_known_at : FnScope N_known_at ["moment", "names"] (defScope s_known_at) := ⟨rfl, rfl, rfl, by decide +kernel, rfl, by decide +kernel, by decide +kernel⟩
abbrev s_common_at : Stmt := topS 55
abbrev N_common_at : List Str := ["moment", "names", "room", "name"]
theorem sc_common_at : FnScope N_common_at ["moment", "names"] (defScope s_common_at) := ⟨rfl, rfl, rfl, by decide +kernel, rfl, by decide +kernel, by decide +kernel⟩
abbrev s_stand_at : Stmt := topS 56
abbrev N_stand_at : List Str := ["moment", "name", "hands"]
theorem sc_stand_at : FnScope N_stand_at ["moment"] (defScope s_stand_at) := ⟨rfl, rfl, rfl, by decide +kernel, rfl, by decide +kernel, by decide +kernel⟩
abbrev s_after_call : Stmt := topS 59
abbrev N_after_call : List Str := ["moment", "hand", "row", "name", "rows", "hands"]
theorem sc_after_call : FnScope N_after_call ["moment", "hand", "row"] (defScope s_after_call) := ⟨rfl, rfl, rfl, by decide +kernel, rfl, by decide +kernel, by decide +kernel⟩
abbrev s_after_whisper : Stmt := topS 60
abbrev N_after_whisper : List Str := ["moment", "hands", "row", "name", "rows", "told"]
theorem sc_after_whisper : FnScope N_after_whisper ["moment", "hands", "row"] (defScope s_after_whisper) := ⟨rfl, rfl, rfl, by decide +kernel, rfl, by decide +kernel, by decide +kernel⟩
abbrev s_after_meet : Stmt := topS 61
abbrev N_after_meet : List Str := ["moment", "hands", "room", "name", "rows", "told"]
theorem sc_after_meet : FnScope N_after_meet ["moment", "hands"] (defScope s_after_meet) := ⟨rfl, rfl, rfl, by decide +kernel, rfl, by decide +kernel, by decide +kernel⟩
abbrev s_news : Stmt := topS 62
abbrev N_news : List Str := ["moment", "rows", "room", "both", "number"]
theorem sc_news : FnScope N_news ["moment", "rows", "room"] (defScope s_news) := ⟨rfl, rfl, rfl, by decide +kernel, rfl, by decide +kernel, by decide +kernel⟩
abbrev s_after : Stmt := topS 70
abbrev N_after : List Str := ["moment", "deed", "step", "things"]
theorem sc_after : FnScope N_after ["moment", "deed"] (defScope s_after) := ⟨rfl, rfl, rfl, by decide +kernel, rfl, by decide +kernel, by decide +kernel⟩
abbrev s__law_deck : Stmt := topS 75
abbrev N__law_deck : List Str := ["_law_script", "_law_cell"]
theorem sc__law_deck : FnScope N__law_deck ["_law_script"] (defScope s__law_deck) := ⟨rfl, rfl, rfl, by decide +kernel, rfl, by decide +kernel, by decide +kernel⟩
abbrev s__law_draw : Stmt := topS 76
abbrev N__law_draw : List Str := ["_law_deck_here", "_law_many", "_law_cell", "_law_place"]
theorem sc__law_draw : FnScope N__law_draw ["_law_deck_here", "_law_many"] (defScope s__law_draw) := ⟨rfl, rfl, rfl, by decide +kernel, rfl, by decide +kernel, by decide +kernel⟩
abbrev s__law_prime : Stmt := topS 77
abbrev N__law_prime : List Str := ["_law_deck_here"]
theorem sc__law_prime : FnScope N__law_prime ["_law_deck_here"] (defScope s__law_prime) := ⟨rfl, rfl, rfl, by decide +kernel, rfl, by decide +kernel, by decide +kernel⟩
abbrev s__law_row : Stmt := topS 78
abbrev N__law_row : List Str := ["_law_deck_here", "_law_p", "_law_n", "_law_place"]
theorem sc__law_row : FnScope N__law_row ["_law_deck_here", "_law_p", "_law_n"] (defScope s__law_row) := ⟨rfl, rfl, rfl, by decide +kernel, rfl, by decide +kernel, by decide +kernel⟩
abbrev s__law_plus : Stmt := topS 79
abbrev N__law_plus : List Str := ["_law_p", "_law_one", "_law_other", "_law_many", "_law_left", "_law_right"]
theorem sc__law_plus : FnScope N__law_plus ["_law_p", "_law_one", "_law_other", "_law_many"] (defScope s__law_plus) := ⟨rfl, rfl, rfl, by decide +kernel, rfl, by decide +kernel, by decide +kernel⟩
abbrev s__law_mixed : Stmt := topS 80
abbrev N__law_mixed : List Str := ["_law_deck_here", "_law_p", "_law_n", "_law_rows_here", "_law_found", "_law_row_here"]
theorem sc__law_mixed : FnScope N__law_mixed ["_law_deck_here", "_law_p", "_law_n", "_law_rows_here"] (defScope s__law_mixed) := ⟨rfl, rfl, rfl, by decide +kernel, rfl, by decide +kernel, by decide +kernel⟩
abbrev s__law_rows : Stmt := topS 81
abbrev N__law_rows : List Str := ["_law_deck_here", "_law_p", "_law_n", "_law_upto", "_law_found", "_law_k", "_law_way"]
theorem sc__law_rows : FnScope N__law_rows ["_law_deck_here", "_law_p", "_law_n", "_law_upto"] (defScope s__law_rows) := ⟨rfl, rfl, rfl, by decide +kernel, rfl, by decide +kernel, by decide +kernel⟩
abbrev s__law_turned : Stmt := topS 82
abbrev N__law_turned : List Str := ["_law_deck_here", "_law_things", "_law_left", "_law_thing"]
theorem sc__law_turned : FnScope N__law_turned ["_law_deck_here", "_law_things"] (defScope s__law_turned) := ⟨rfl, rfl, rfl, by decide +kernel, rfl, by decide +kernel, by decide +kernel⟩
abbrev s__law_names : Stmt := topS 83
abbrev N__law_names : List Str := ["_law_deck_here", "_law_many", "_law_letters", "_law_k", "_law_stem", "_law_spot", "_law_first"]
theorem sc__law_names : FnScope N__law_names ["_law_deck_here", "_law_many"] (defScope s__law_names) := ⟨rfl, rfl, rfl, by decide +kernel, rfl, by decide +kernel, by decide +kernel⟩
abbrev s__law_otherwise : Stmt := topS 84
abbrev N__law_otherwise : List Str := ["_law_deck_here", "_law_p", "_law_n", "_law_rows_here", "_law_found", "_law_row_here", "_law_own"]
theorem sc__law_otherwise : FnScope N__law_otherwise ["_law_deck_here", "_law_p", "_law_n", "_law_rows_here"] (defScope s__law_otherwise) := ⟨rfl, rfl, rfl, by decide +kernel, rfl, by decide +kernel, by decide +kernel⟩
abbrev s__law_deed : Stmt := topS 85
abbrev N__law_deed : List Str := ["_law_deck_here", "_law_book", "_law_other", "_law_p", "_law_n", "_law_names_here", "_law_way", "_law_hand", "_law_row_here", "_law_like"]
theorem sc__law_deed : FnScope N__law_deed ["_law_deck_here", "_law_book", "_law_other", "_law_p", "_law_n"] (defScope s__law_deed) := ⟨rfl, rfl, rfl, by decide +kernel, rfl, by decide +kernel, by decide +kernel⟩
abbrev s__law_alike : Stmt := topS 86
abbrev N__law_alike : List Str := ["_law_book", "_law_other", "_law_moment", "_law_names_here", "_law_stand", "_law_p", "_law_n", "_law_open_room", "_law_hands", "_law_group", "_law_k", "_law_row_here"]
theorem sc__law_alike : FnScope N__law_alike ["_law_book", "_law_other", "_law_moment"] (defScope s__law_alike) := ⟨rfl, rfl, rfl, by decide +kernel, rfl, by decide +kernel, by decide +kernel⟩
abbrev s_law : Stmt := topS 87
abbrev N_law : List Str := ["_law_script", "_law_deck_here", "_law_p", "_law_n", "_law_name", "_law_hands", "_law_book", "_law_rows_here", "_law_other", "_law_turn"]
theorem sc_law : FnScope N_law ["_law_script"] (defScope s_law) := ⟨rfl, rfl, rfl, by decide +kernel, rfl, by decide +kernel, by decide +kernel⟩
abbrev s_Moment___init__ : Stmt := inClass (topS 51) 0
abbrev N_Moment___init__ : List Str := ["self", "p", "n", "called", "hands"]
theorem sc_Moment___init__ : FnScope N_Moment___init__ ["self", "p", "n", "called", "hands"] (defScope s_Moment___init__) := ⟨rfl, rfl, rfl, by decide +kernel, rfl, by decide +kernel, by decide +kernel⟩
abbrev s_Book___init__ : Stmt := inClass (topS 73) 0
abbrev N_Book___init__ : List Str := ["self", "p", "n", "hands"]
theorem sc_Book___init__ : FnScope N_Book___init__ ["self", "p", "n", "hands"] (defScope s_Book___init__) := ⟨rfl, rfl, rfl, by decide +kernel, rfl, by decide +kernel, by decide +kernel⟩
abbrev s_Book___len__ : Stmt := inClass (topS 73) 2
abbrev N_Book___len__ : List Str := ["self"]
theorem sc_Book___len__ : FnScope N_Book___len__ ["self"] (defScope s_Book___len__) := ⟨rfl, rfl, rfl, by decide +kernel, rfl, by decide +kernel, by decide +kernel⟩
abbrev s_Book_now : Stmt := inClass (topS 73) 4
abbrev N_Book_now : List Str := ["self"]
theorem sc_Book_now : FnScope N_Book_now ["self"] (defScope s_Book_now) := ⟨rfl, rfl, rfl, by decide +kernel, rfl, by decide +kernel, by decide +kernel⟩
abbrev s_Book_refuse_amid : Stmt := inClass (topS 73) 5
abbrev N_Book_refuse_amid : List Str := ["self"]
theorem sc_Book_refuse_amid : FnScope N_Book_refuse_amid ["self"] (defScope s_Book_refuse_amid) := ⟨rfl, rfl, rfl, by decide +kernel, rfl, by decide +kernel, by decide +kernel⟩
abbrev s_Book_perform : Stmt := inClass (topS 73) 6
abbrev N_Book_perform : List Str := ["self", "deed", "moment"]
theorem sc_Book_perform : FnScope N_Book_perform ["self", "deed"] (defScope s_Book_perform) := ⟨rfl, rfl, rfl, by decide +kernel, rfl, by decide +kernel, by decide +kernel⟩
abbrev s_Book_call : Stmt := inClass (topS 73) 7
abbrev N_Book_call : List Str := ["self", "hand", "row"]
theorem sc_Book_call : FnScope N_Book_call ["self", "hand", "row"] (defScope s_Book_call) := ⟨rfl, rfl, rfl, by decide +kernel, rfl, by decide +kernel, by decide +kernel⟩
abbrev s_Book_whisper : Stmt := inClass (topS 73) 8
abbrev N_Book_whisper : List Str := ["self", "hands", "row"]
theorem sc_Book_whisper : FnScope N_Book_whisper ["self", "hands", "row"] (defScope s_Book_whisper) := ⟨rfl, rfl, rfl, by decide +kernel, rfl, by decide +kernel, by decide +kernel⟩
abbrev s_Book_meet : Stmt := inClass (topS 73) 9
abbrev N_Book_meet : List Str := ["self", "hands"]
theorem sc_Book_meet : FnScope N_Book_meet ["self", "hands"] (defScope s_Book_meet) := ⟨rfl, rfl, rfl, by decide +kernel, rfl, by decide +kernel, by decide +kernel⟩
abbrev s_Book_moment_at : Stmt := inClass (topS 73) 18
abbrev N_Book_moment_at : List Str := ["self", "at"]
theorem sc_Book_moment_at : FnScope N_Book_moment_at ["self", "at"] (defScope s_Book_moment_at) := ⟨rfl, rfl, rfl, by decide +kernel, rfl, by decide +kernel, by decide +kernel⟩
abbrev s_Book_moment_of : Stmt := inClass (topS 73) 19
abbrev N_Book_moment_of : List Str := ["self", "hands", "least", "at", "moment"]
theorem sc_Book_moment_of : FnScope N_Book_moment_of ["self", "hands", "least", "at"] (defScope s_Book_moment_of) := ⟨rfl, rfl, rfl, by decide +kernel, rfl, by decide +kernel, by decide +kernel⟩
abbrev s_Book_names : Stmt := inClass (topS 73) 20
abbrev N_Book_names : List Str := ["self", "at"]
theorem sc_Book_names : FnScope N_Book_names ["self", "at"] (defScope s_Book_names) := ⟨rfl, rfl, rfl, by decide +kernel, rfl, by decide +kernel, by decide +kernel⟩
abbrev s_Book_heard : Stmt := inClass (topS 73) 21
abbrev N_Book_heard : List Str := ["self", "hands", "at"]
theorem sc_Book_heard : FnScope N_Book_heard ["self", "hands", "at"] (defScope s_Book_heard) := ⟨rfl, rfl, rfl, by decide +kernel, rfl, by decide +kernel, by decide +kernel⟩
abbrev s_Book_known : Stmt := inClass (topS 73) 22
abbrev N_Book_known : List Str := ["self", "hands", "at"]
theorem sc_Book_known : FnScope N_Book_known ["self", "hands", "at"] (defScope s_Book_known) := ⟨rfl, rfl, rfl, by decide +kernel, rfl, by decide +kernel, by decide +kernel⟩
abbrev s_Book_common : Stmt := inClass (topS 73) 23
abbrev N_Book_common : List Str := ["self", "hands", "at"]
theorem sc_Book_common : FnScope N_Book_common ["self", "hands", "at"] (defScope s_Book_common) := ⟨rfl, rfl, rfl, by decide +kernel, rfl, by decide +kernel, by decide +kernel⟩
abbrev s_Book_knows : Stmt := inClass (topS 73) 24
abbrev N_Book_knows : List Str := ["self", "hands", "row", "at", "moment"]
theorem sc_Book_knows : FnScope N_Book_knows ["self", "hands", "row", "at"] (defScope s_Book_knows) := ⟨rfl, rfl, rfl, by decide +kernel, rfl, by decide +kernel, by decide +kernel⟩
abbrev s_Book_stand : Stmt := inClass (topS 73) 30
abbrev N_Book_stand : List Str := ["self", "at"]
theorem sc_Book_stand : FnScope N_Book_stand ["self", "at"] (defScope s_Book_stand) := ⟨rfl, rfl, rfl, by decide +kernel, rfl, by decide +kernel, by decide +kernel⟩
structure Top (K : PySem.W.Frag) (mg : Str → Option Value) : Prop where
  b_abs : mg "abs" = none
  b_all : mg "all" = none
  b_bool : mg "bool" = none
  b_enumerate : mg "enumerate" = none
  b_int : mg "int" = none
  b_isinstance : mg "isinstance" = none
  b_len : mg "len" = none
  b_list : mg "list" = none
  b_range : mg "range" = none
  b_repr : mg "repr" = none
  b_sorted : mg "sorted" = none
  b_str : mg "str" = none
  b_tuple : mg "tuple" = none
  b_zip : mg "zip" = none
  c_LETTERS : ∃ t, mg "LETTERS" = some (.str "abcdefghijklmnopqrstuvwxyz" t)
  c_DEEDS : ∃ t, mg "DEEDS" = some (.int 60 t)
  k_Moment : ClsN K mg "Moment"
  na_Moment_p : NoAttr K (adr mg "Moment") "p"
  na_Moment_n : NoAttr K (adr mg "Moment") "n"
  na_Moment_called : NoAttr K (adr mg "Moment") "called"
  na_Moment_hands : NoAttr K (adr mg "Moment") "hands"
  k_Book : ClsN K mg "Book"
  na_Book_made : NoAttr K (adr mg "Book") "made"
  na_Book_moments : NoAttr K (adr mg "Book") "moments"
  na_Book_done : NoAttr K (adr mg "Book") "done"
  na_Book_trials : NoAttr K (adr mg "Book") "trials"
  na_Book_amid : NoAttr K (adr mg "Book") "amid"
  d_Moment___init__ : DfM K mg "Moment" "__init__" "Moment.__init__" s_Moment___init__ ["self", "p", "n", "called", "hands"] []
  d_Book___init__ : DfM K mg "Book" "__init__" "Book.__init__" s_Book___init__ ["self", "p", "n", "hands"] []
  d_Book___len__ : DfM K mg "Book" "__len__" "Book.__len__" s_Book___len__ ["self"] []
  d_Book_now : DfM K mg "Book" "now" "Book.now" s_Book_now ["self"] []
  d_Book_refuse_amid : DfM K mg "Book" "refuse_amid" "Book.refuse_amid" s_Book_refuse_amid ["self"] []
  d_Book_perform : DfM K mg "Book" "perform" "Book.perform" s_Book_perform ["self", "deed"] []
  d_Book_call : DfM K mg "Book" "call" "Book.call" s_Book_call ["self", "hand", "row"] []
  d_Book_whisper : DfM K mg "Book" "whisper" "Book.whisper" s_Book_whisper ["self", "hands", "row"] []
  d_Book_meet : DfM K mg "Book" "meet" "Book.meet" s_Book_meet ["self", "hands"] []
  d_Book_moment_at : DfM K mg "Book" "moment_at" "Book.moment_at" s_Book_moment_at ["self", "at"] []
  d_Book_moment_of : DfM K mg "Book" "moment_of" "Book.moment_of" s_Book_moment_of ["self", "hands", "least", "at"] []
  d_Book_names : DfM K mg "Book" "names" "Book.names" s_Book_names ["self", "at"] [.non]
  d_Book_heard : DfM K mg "Book" "heard" "Book.heard" s_Book_heard ["self", "hands", "at"] [.non]
  d_Book_known : DfM K mg "Book" "known" "Book.known" s_Book_known ["self", "hands", "at"] [.non]
  d_Book_common : DfM K mg "Book" "common" "Book.common" s_Book_common ["self", "hands", "at"] [.non]
  d_Book_knows : DfM K mg "Book" "knows" "Book.knows" s_Book_knows ["self", "hands", "row", "at"] [.non]
  d_Book_stand : DfM K mg "Book" "stand" "Book.stand" s_Book_stand ["self", "at"] [.non]
  d_is_name : Df K mg "is_name" s_is_name ["thing"]
  d_is_rising : Df K mg "is_rising" s_is_rising ["things"]
  d_are_names : Df K mg "are_names" s_are_names ["thing"]
  d_is_number : Df K mg "is_number" s_is_number ["thing"]
  d_is_rest : Df K mg "is_rest" s_is_rest ["p", "thing"]
  d_contrary : Df K mg "contrary" s_contrary ["p", "a"]
  d_is_row : Df K mg "is_row" s_is_row ["p", "n", "thing"]
  d_added : Df K mg "added" s_added ["p", "one", "other"]
  d_times : Df K mg "times" s_times ["p", "a", "row"]
  d_check_hand : Df K mg "check_hand" s_check_hand ["there", "hand"]
  d_check_hands : Df K mg "check_hands" s_check_hands ["there", "hands", "least"]
  d_check_row : Df K mg "check_row" s_check_row ["p", "n", "row"]
  d_is_noughts : Df K mg "is_noughts" s_is_noughts ["row"]
  d_first_place : Df K mg "first_place" s_first_place ["row"]
  d_cleared : Df K mg "cleared" s_cleared ["p", "plain", "row"]
  d_left_of : Df K mg "left_of" s_left_of ["p", "room", "row"]
  d_widened : Df K mg "widened" s_widened ["p", "room", "row"]
  d_room_of : Df K mg "room_of" s_room_of ["p", "n", "rows"]
  d_within : Df K mg "within" s_within ["p", "room", "row"]
  d_joined : Df K mg "joined" s_joined ["p", "n", "one", "other"]
  d_shared : Df K mg "shared" s_shared ["p", "n", "one", "other"]
  d_across : Df K mg "across" s_across ["p", "n", "room"]
  d_across_at : Df K mg "across_at" s_across_at ["p", "n", "room", "at"]
  d_needed : Df K mg "needed" s_needed ["p", "n", "rows"]
  d_names_at : Df K mg "names_at" s_names_at ["moment"]
  d_heard_at : Df K mg "heard_at" s_heard_at ["moment", "names"]
  d_known_at : Df K mg "known_at" s_known_at ["moment", "names"]
  d_common_at : Df K mg "common_at" s_common_at ["moment", "names"]
  d_stand_at : Df K mg "stand_at" s_stand_at ["moment"]
  d_after_call : Df K mg "after_call" s_after_call ["moment", "hand", "row"]
  d_after_whisper : Df K mg "after_whisper" s_after_whisper ["moment", "hands", "row"]
  d_after_meet : Df K mg "after_meet" s_after_meet ["moment", "hands"]
  d_news : Df K mg "news" s_news ["moment", "rows", "room"]
  d_after : Df K mg "after" s_after ["moment", "deed"]
  d__law_deck : Df K mg "_law_deck" s__law_deck ["_law_script"]
  d__law_draw : Df K mg "_law_draw" s__law_draw ["_law_deck_here", "_law_many"]
  d__law_prime : Df K mg "_law_prime" s__law_prime ["_law_deck_here"]
  d__law_row : Df K mg "_law_row" s__law_row ["_law_deck_here", "_law_p", "_law_n"]
  d__law_plus : Df K mg "_law_plus" s__law_plus ["_law_p", "_law_one", "_law_other", "_law_many"]
  d__law_mixed : Df K mg "_law_mixed" s__law_mixed ["_law_deck_here", "_law_p", "_law_n", "_law_rows_here"]
  d__law_rows : Df K mg "_law_rows" s__law_rows ["_law_deck_here", "_law_p", "_law_n", "_law_upto"]
  d__law_turned : Df K mg "_law_turned" s__law_turned ["_law_deck_here", "_law_things"]
  d__law_names : Df K mg "_law_names" s__law_names ["_law_deck_here", "_law_many"]
  d__law_otherwise : Df K mg "_law_otherwise" s__law_otherwise ["_law_deck_here", "_law_p", "_law_n", "_law_rows_here"]
  d__law_deed : Df K mg "_law_deed" s__law_deed ["_law_deck_here", "_law_book", "_law_other", "_law_p", "_law_n"]
  d__law_alike : Df K mg "_law_alike" s__law_alike ["_law_book", "_law_other", "_law_moment"]
section
variable {P : Program} {w : World} {K : PySem.W.Frag} {mg : Str → Option Value} {base : Heap}
def sp_whole (K : PySem.W.Frag) : Sp := fun vs H Q _ => ∃ (v : V) (k : Kd), vs = [v] ∧ KdOf K H v k ∧ Q (.bl (decide (k = .int))) H
def sp_contr : Sp := fun vs H Q _ => ∃ p a : Int, vs = [.int p, .int a] ∧ Fld p ∧ p ≤ 1000 ∧ 1 ≤ a ∧ a < p ∧ Q (.int (ctr p a)) H
theorem ok_contrary (T : Top K mg) : Ok P w K mg base 1 "contrary" ["p", "a"] sp_contr := by
  refine T.d_contrary.ok sc_contrary (fun vs H Q E h => ?_) (fun f cdv A outer s H vs Q E hr h => ?_)
  · obtain ⟨p, a, rfl, _⟩ := h
    rfl
  · obtain ⟨p, a, rfl, hF, h2, h3, h4, q⟩ := h
    have h1 := hF.1
    refine ⟨_, ((pss_cons (ps_for PassesOwn.never (by rfl) (pi_range2 (by rfl) T.b_range (pa_cons pe_int (pa_cons (pv 0) pa_nil))) (pg_name (i := 2) sc_contrary.nd rfl (.inl rfl))
        (pss_one (ps_if (pt_cmpR op_eq (pe_op op_mod (pe_op op_mul (pv 1) (pv 2)) (pv 0)) pe_int (nomark _))
          (pss_one (ps_ret (pv 2)))
          pss_nil)))
      (pss_one (ps_ret pe_non)))), ?_⟩
    refine ⟨.int p, rfl, 1, p, rfl, ⟨by omega, by omega, by omega, by omega⟩, for_range (lo := 1) (n := (p - 1).toNat) (fun i σ H' => H' = H ∧ (∃ y, σ = [some (.int p), some (.int a), y]) ∧ ∀ b : Int, 1 ≤ b → b < 1 + i → a * b % p ≠ 1) ⟨rfl, ⟨none, rfl⟩, fun b _ _ => by omega⟩ (fun i σ H' hi hW => ?_) (fun σ H' hW => ?_)⟩
    · obtain ⟨rfl, ⟨y, rfl⟩, hn⟩ := hW
      refine ⟨.int a, rfl, .int (1 + i), rfl, a, 1 + i, rfl, rfl, .inl ⟨by omega, by omega⟩, .int p, rfl, _, p, rfl, rfl, by omega, rfl, _, rfl, ite2 (fun e => ?_) (fun e => ?_)⟩
      · have e1 : a * (1 + i) % p = 1 := V.int.inj (of_decide_eq_true e)
        refine ⟨.int (1 + i), rfl, ?_⟩
        rw [ctr_uniq hF h3 h4 (show (1 : Int) ≤ 1 + i by omega) (by omega) e1]
        exact q
      · have e1 : a * (1 + i) % p ≠ 1 := fun z => e (decide_eq_true (congrArg V.int z))
        refine ⟨rfl, ⟨_, rfl⟩, fun b hb1 hb2 => ?_⟩
        by_cases z : b = 1 + i
        · subst z; exact e1
        · exact hn b hb1 (by omega)
    · obtain ⟨rfl, ⟨y, rfl⟩, hn⟩ := hW
      obtain ⟨b, b1, b2, b3⟩ := hF.2 a h3 h4
      exact absurd b3 (hn b b1 (by omega))
def sp_added (K : PySem.W.Frag) : Sp := fun vs H Q _ => ∃ (a b : Addr) (x y : List Int) (p : Int), vs = [.int p, .ref a, .ref b] ∧ SqT K H a (x.map V.int) ∧ SqT K H b (y.map V.int) ∧ x.length ≤ 1000 ∧ 0 < p ∧
  ∀ H' l, Same H H' → H l = none → H' l = some (.tup ((addR p x y).map V.int)) → Q (.ref l) H'
theorem ok_added (T : Top K mg) : Ok P w K mg base 1 "added" ["p", "one", "other"] (sp_added K) := by
  refine T.d_added.ok sc_added (fun vs H Q E h => ?_) (fun f cdv A outer s H vs Q E hr h => ?_)
  · obtain ⟨a, b, x, y, p, rfl, _⟩ := h
    rfl
  · obtain ⟨a, b, x, y, p, rfl, hA, hB, hz, hp, q⟩ := h
    refine ⟨_, ((pss_one (ps_ret (pe_callTy call_tuple_of (by rfl) T.b_tuple (by decide +kernel) (pa_cons (pe_lc (own := [("a", 3), ("b", 4)]) (g := gTup K 2 (gCons (gName 3) (gCons (gName 4) gNil))) (by rfl) sc_added.nd (RZ.pi_zipA (by rfl) T.b_zip (pa_cons (pv 1) (pa_cons (pv 2) pa_nil))) (blkOk_by (own := [("a", 3), ("b", 4)]) (N := N_added) (sc := defScope s_added) (by decide +kernel)) (fun _ _ _ _ _ => (pg_tup (by rfl) (pgs_cons (pg_name (i := 3) sc_added.nd rfl (.inl rfl)) (pgs_cons (pg_name (i := 4) sc_added.nd rfl (.inl rfl)) pgs_nil)))) (fun _ _ _ _ _ => pts_nil) (fun _ _ _ _ _ => (pe_op op_mod (pe_op op_add (pv 3) (pv 4)) (pv 0)))) pa_nil))))), ?_⟩
    refine ⟨.ref a, rfl, .ref b, rfl, a, b, _, _, rfl, .inr ⟨hA, hB, lc_zipI (fun u v => (u + v) % p) hA hB hz (fun _ _ => rfl) (fun u v H' Q' _ _ _ hQ => ?_) (fun D H' sm nD eD => ?_)⟩⟩
    · exact ⟨.int u, rfl, .int v, rfl, u, v, rfl, rfl, .int p, rfl, _, p, rfl, rfl, hp, hQ⟩
    · refine ⟨D, _, rfl, .inl ⟨.inl (.inl eD), fun l nl => ?_⟩⟩
      exact q _ l (sm.trans (same_upd nl)) (sm.free nl) upd_same
def sp_times (K : PySem.W.Frag) : Sp := fun vs H Q _ => ∃ (b : Addr) (x : List Int) (p m : Int), vs = [.int p, .int m, .ref b] ∧ SqT K H b (x.map V.int) ∧ x.length ≤ 1000 ∧ 0 < p ∧ -1000000 ≤ m ∧ m ≤ 1000000 ∧
  ∀ H' l, Same H H' → H l = none → H' l = some (.tup ((timesR p m x).map V.int)) → Q (.ref l) H'
theorem ok_times (T : Top K mg) : Ok P w K mg base 1 "times" ["p", "a", "row"] (sp_times K) := by
  refine T.d_times.ok sc_times (fun vs H Q E h => ?_) (fun f cdv A outer s H vs Q E hr h => ?_)
  · obtain ⟨b, x, p, m, rfl, _⟩ := h
    rfl
  · obtain ⟨b, x, p, m, rfl, hB, hz, hp, hm1, hm2, q⟩ := h
    refine ⟨_, ((pss_one (ps_ret (pe_callTy call_tuple_of (by rfl) T.b_tuple (by decide +kernel) (pa_cons (pe_lc (own := [("rest", 3)]) (g := gName 3) (by rfl) sc_times.nd (pi_tup (pv 2)) (blkOk_by (own := [("rest", 3)]) (N := N_times) (sc := defScope s_times) (by decide +kernel)) (fun _ _ _ _ _ => (pg_name (i := 3) sc_times.nd rfl (.inl rfl))) (fun _ _ _ _ _ => pts_nil) (fun _ _ _ _ _ => (pe_op op_mod (pe_op op_mul (pv 1) (pv 3)) (pv 0)))) pa_nil))))), ?_⟩
    refine ⟨.ref b, rfl, b, rfl, ⟨_, hB⟩, lc_tupI (fun v => m * v % p) hB hz (fun _ => rfl) (fun v H' Q' _ _ hQ => ?_) (fun D H' sm nD eD => ?_)⟩
    · exact ⟨.int m, rfl, .int v, rfl, m, v, rfl, rfl, .inl ⟨by omega, by omega⟩, .int p, rfl, _, p, rfl, rfl, hp, hQ⟩
    · refine ⟨D, _, rfl, .inl ⟨.inl (.inl eD), fun l nl => ?_⟩⟩
      exact q _ l (sm.trans (same_upd nl)) (sm.free nl) upd_same
theorem ok_is_number (T : Top K mg) : Ok P w K mg base 1 "is_number" ["thing"] (sp_whole K) := by
  refine T.d_is_number.ok sc_is_number (fun vs H Q E h => ?_) (fun f cdv A outer s H vs Q E hr h => ?_)
  · obtain ⟨v, k, rfl, _⟩ := h
    rfl
  · obtain ⟨v, k, rfl, ty, q⟩ := h
    refine ⟨_, ((pss_one (ps_ret (pe_and (pe_callB call_isi (by rfl) T.b_isinstance (by decide +kernel) (pa_cons (pv 0) (pa_cons (pe_bltn (v := .ty "int") (u := .type "int") (by rfl) T.b_int (by decide +kernel) rfl) pa_nil))) (pe_one (pe_not (pe_callB call_isi (by rfl) T.b_isinstance (by decide +kernel) (pa_cons (pv 0) (pa_cons (pe_bltn (v := .ty "bool") (u := .type "bool") (by rfl) T.b_bool (by decide +kernel) rfl) pa_nil))))))))), ?_⟩
    refine ⟨v, rfl, v, .ty "int", _, _, _, rfl, .ty "int", ty, kit_int k, _, rfl, ?_⟩
    cases k <;> first | exact q | exact ⟨v, rfl, v, .ty "bool", _, _, _, rfl, .ty "bool", ty, kit_bool _, _, rfl, q⟩
def sp_is_rest (K : PySem.W.Frag) : Sp := fun vs H Q _ => ∃ (p : Int) (v : V) (e : PyData), vs = [.int p, v] ∧ Rep K H NB v e ∧ Q (.bl (restD p e)) H
theorem ok_is_rest (T : Top K mg) : Ok P w K mg base 2 "is_rest" ["p", "thing"] (sp_is_rest K) := by
  have O_is_number := ok_is_number (P := P) (w := w) (base := base) T
  refine T.d_is_rest.ok sc_is_rest (fun vs H Q E h => ?_) (fun f cdv A outer s H vs Q E hr h => ?_)
  · obtain ⟨p, v, e, rfl, _⟩ := h
    rfl
  · obtain ⟨p, v, e, rfl, hv, q⟩ := h
    refine ⟨_, ((pss_one (ps_ret (pe_and (pe_callO O_is_number (hr.mono (by omega)) (by rfl) (pa_cons (pv 1) pa_nil)) (pe_one (pe_chain op_le op_lt pe_int (pv 1) (pv 0))))))), ?_⟩
    refine ⟨v, rfl, v, kdOf e, rfl, hv.kd, _, rfl, ?_⟩
    cases hv with
    | int i =>
      refine iteT ⟨.int i, rfl, 0, i, rfl, rfl, _, rfl, ?_⟩
      by_cases h0 : 0 ≤ i
      · rw [decide_eq_true h0]
        refine iteT ⟨.int p, rfl, i, p, rfl, rfl, ?_⟩
        have e : restD p (.int i) = decide (i < p) := by
          show (decide (0 ≤ i) && decide (i < p)) = decide (i < p)
          rw [decide_eq_true h0, Bool.true_and]
        rw [e] at q
        exact q
      · rw [decide_eq_false h0]
        refine iteF ?_
        have e : restD p (.int i) = false := by
          show (decide (0 ≤ i) && decide (i < p)) = false
          rw [decide_eq_false h0, Bool.false_and]
        rw [e] at q
        exact q
    | _ => exact iteF q
def sp_is_row (K : PySem.W.Frag) : Sp := fun vs H Q _ => ∃ (p n : Int) (v : V) (e : PyData), vs = [.int p, .int n, v] ∧ Rep K H NB v e ∧ lenOk e ∧ ∀ H', Same H H' → Q (.bl (isRowD p n e)) H'
theorem ok_is_row (T : Top K mg) : Ok P w K mg base 3 "is_row" ["p", "n", "thing"] (sp_is_row K) := by
  have O_is_rest := ok_is_rest (P := P) (w := w) (base := base) T
  refine T.d_is_row.ok sc_is_row (fun vs H Q E h => ?_) (fun f cdv A outer s H vs Q E hr h => ?_)
  · obtain ⟨p, n, v, e, rfl, _⟩ := h
    rfl
  · obtain ⟨p, n, v, e, rfl, hv, hl, q⟩ := h
    refine ⟨_, ((pss_one (ps_ret (pe_and (pe_callB call_isi (by rfl) T.b_isinstance (by decide +kernel) (pa_cons (pv 2) (pa_cons (pe_bltn (v := .ty "tuple") (u := .type "tuple") (by rfl) T.b_tuple (by decide +kernel) rfl) pa_nil))) (pe_and (pe_cmpR op_eq (pe_callB call_len_seq (by rfl) T.b_len (by decide +kernel) (pa_cons (pv 2) pa_nil)) (pv 1) (nomark _)) (pe_one (pe_callB (cr_all (by rfl)) (by rfl) T.b_all (by decide +kernel) (pa_cons (pe_lc (own := [("part", 3)]) (g := gName 3) (by rfl) sc_is_row.nd (pi_tup (pv 2)) (blkOk_by (own := [("part", 3)]) (N := N_is_row) (sc := defScope s_is_row) (by decide +kernel)) (fun _ _ _ _ _ => (pg_name (i := 3) sc_is_row.nd rfl (.inl rfl))) (fun _ _ _ _ _ => pts_nil) (fun _ _ _ _ _ => (pe_callO O_is_rest (hr.mono (by omega)) (by rfl) (pa_cons (pv 0) (pa_cons (pv 3) pa_nil))))) pa_nil)))))))), ?_⟩
    refine ⟨v, rfl, v, .ty "tuple", _, _, _, rfl, .ty "tuple", hv.kd, kit_tuple _, _, rfl, ?_⟩
    cases hv with
    | @tup a xs ds hA hx =>
      have lx := repAll_len hx
      have hl : ds.length ≤ 1000 := hl
      refine iteT ⟨.ref a, rfl, a, xs, rfl, .inr hA, .int n, rfl, rfl, _, rfl, ?_⟩
      by_cases hn : (ds.length : Int) = n
      · rw [decide_eq_true (show V.int ((xs.length : Nat) : Int) = V.int n by rw [lx, hn])]
        refine iteT ⟨.ref a, rfl, a, rfl, ⟨_, hA⟩, fun D nD => ?_⟩
        refine lc_it (walk_tup (K := K) (a := a) (xs := xs)) (fun k H' => Same H H' ∧ H' D = some (.lst (((ds.map (restD p)).take k).map V.bl))) ⟨same_mut (Same.refl H) nD, upd_same⟩ (fun k H' _ hP => Same.tup hP.1 hA) (fun k x H1 H2 hk hP hY => ?_) (fun H' hP => ?_)
        · obtain ⟨rfl, e1⟩ := hY
          obtain ⟨sm, eD⟩ := hP
          obtain ⟨e, g, _, rx⟩ := repAll_get hx e1
          refine ⟨rfl, .int p, rfl, x, rfl, p, x, e, rfl, rep_stays (Stays.of sm) _ _ rx, _, eD, ?_, same_mut sm nD, ?_⟩
          · rw [List.length_map, List.length_take, List.length_map]
            exact small1000 (by omega)
          · rw [upd_same, List.take_add_one, List.getElem?_map, g, List.map_append]
            rfl
        · obtain ⟨sm, eD⟩ := hP
          rw [List.take_of_length_le (by rw [List.length_map]; omega)] at eD
          refine ⟨D, ds.map (restD p), rfl, .inl (.inl eD), ?_⟩
          have e : isRowD p n (.tuple ds) = (ds.map (restD p)).all id := by
            show (decide ((ds.length : Int) = n) && ds.all (restD p)) = _
            rw [decide_eq_true hn, Bool.true_and, List.all_map]
            rfl
          have := q H' sm
          rw [e] at this
          exact this
      · rw [decide_eq_false (show ¬ V.int ((xs.length : Nat) : Int) = V.int n from fun z => hn (by rw [← lx]; exact V.int.inj z))]
        refine iteF ?_
        have e : isRowD p n (.tuple ds) = false := by
          show (decide ((ds.length : Int) = n) && ds.all (restD p)) = false
          rw [decide_eq_false hn, Bool.false_and]
        have := q H (Same.refl H)
        rw [e] at this
        exact this
    | _ => exact iteF (q H (Same.refl H))
def sp_noughts (K : PySem.W.Frag) : Sp := fun vs H Q _ => ∃ (a : Addr) (r : List Int), vs = [.ref a] ∧ SqT K H a (r.map V.int) ∧ r.length ≤ 1000 ∧ ∀ H', Same H H' → Q (.bl (r.all fun x => decide (x = 0))) H'
theorem ok_is_noughts (T : Top K mg) : Ok P w K mg base 1 "is_noughts" ["row"] (sp_noughts K) := by
  refine T.d_is_noughts.ok sc_is_noughts (fun vs H Q E h => ?_) (fun f cdv A outer s H vs Q E hr h => ?_)
  · obtain ⟨a, r, rfl, _⟩ := h
    rfl
  · obtain ⟨a, r, rfl, hA, hl, q⟩ := h
    refine ⟨_, ((pss_one (ps_ret (pe_callB (cr_all (by rfl)) (by rfl) T.b_all (by decide +kernel) (pa_cons (pe_lc (own := [("rest", 1)]) (g := gName 1) (by rfl) sc_is_noughts.nd (pi_tup (pv 0)) (blkOk_by (own := [("rest", 1)]) (N := N_is_noughts) (sc := defScope s_is_noughts) (by decide +kernel)) (fun _ _ _ _ _ => (pg_name (i := 1) sc_is_noughts.nd rfl (.inl rfl))) (fun _ _ _ _ _ => pts_nil) (fun _ _ _ _ _ => (pe_cmpR op_eq (pv 1) pe_int (nomark _)))) pa_nil))))), ?_⟩
    refine ⟨.ref a, rfl, a, rfl, ⟨_, hA⟩, fun D nD => ?_⟩
    refine lc_it (walk_tup (K := K) (a := a) (xs := r.map V.int)) (fun k H' => Same H H' ∧ H' D = some (.lst (((r.map fun x => decide (x = 0)).take k).map V.bl))) ⟨same_mut (Same.refl H) nD, upd_same⟩ (fun k H' _ hP => Same.tup hP.1 hA) (fun k x H1 H2 hk hP hY => ?_) (fun H' hP => ?_)
    · obtain ⟨rfl, e1⟩ := hY
      obtain ⟨sm, eD⟩ := hP
      rw [List.getElem?_map] at e1
      cases h1 : r[k]? with
      | none => rw [h1] at e1; cases e1
      | some z =>
        rw [h1] at e1
        have q1 : x = V.int z := (Option.some.inj e1).symm
        subst q1
        refine ⟨rfl, .int z, rfl, rfl, _, eD, ?_, same_mut sm nD, ?_⟩
        · rw [List.length_map, List.length_take, List.length_map]
          exact small1000 (by omega)
        · have ez : decide (V.int z = V.int 0) = decide (z = 0) := decide_eq_decide.mpr ⟨fun e => V.int.inj e, fun e => congrArg V.int e⟩
          rw [upd_same, List.take_add_one, List.getElem?_map, h1, List.map_append, ez]
          rfl
    · obtain ⟨sm, eD⟩ := hP
      rw [List.take_of_length_le (by rw [List.length_map, List.length_map]; exact Nat.le_refl _)] at eD
      refine ⟨D, _, rfl, .inl (.inl eD), ?_⟩
      have := q H' sm
      rw [show (r.all fun x => decide (x = 0)) = (r.map fun x => decide (x = 0)).all id by rw [List.all_map]; rfl] at this
      exact this
def sp_first (K : PySem.W.Frag) : Sp := fun vs H Q _ => ∃ (a : Addr) (r : List Int), vs = [.ref a] ∧ SqT K H a (r.map V.int) ∧ r.length ≤ 1000 ∧ (fpR r < r.length → ∀ H', Same H H' → Q (.int (fpR r : Int)) H') ∧ (fpR r = r.length → ∀ H', Same H H' → Q .non H')
theorem ok_first_place (T : Top K mg) : Ok P w K mg base 1 "first_place" ["row"] (sp_first K) := by
  refine T.d_first_place.ok sc_first_place (fun vs H Q E h => ?_) (fun f cdv A outer s H vs Q E hr h => ?_)
  · obtain ⟨a, r, rfl, _⟩ := h
    rfl
  · obtain ⟨a, r, rfl, hA, hl, q1, q2⟩ := h
    refine ⟨_, ((pss_cons (ps_for PassesOwn.never (by rfl) (pi_enumT (by rfl) T.b_enumerate (pa_cons (pv 0) pa_nil)) (pg_tup (by rfl) (pgs_cons (pg_name (i := 1) sc_first_place.nd rfl (.inl rfl)) (pgs_cons (pg_name (i := 2) sc_first_place.nd rfl (.inl rfl)) pgs_nil)))
        (pss_one (ps_if (pt_cmpR op_ne (pv 2) pe_int (nomark _))
          (pss_one (ps_ret (pv 1)))
          pss_nil)))
      (pss_one (ps_ret pe_non)))), ?_⟩
    refine ⟨.ref a, rfl, a, _, rfl, hA, for_it (walk_enumT (K := K) (a := a) (xs := r.map V.int)) (fun i σ H' => Same H H' ∧ (∀ j, j < i → r.getD j 0 = 0) ∧ ∃ y1 y2, σ = [some (.ref a), y1, y2]) ⟨Same.refl H, fun j hj => absurd hj (Nat.not_lt_zero _), none, none, rfl⟩ (fun i σ H' _ hW => Same.tup hW.1 hA) (fun i v σ H1 H2 hi hW hY => ?_) (fun σ H' hW => ?_)⟩
    · obtain ⟨sm, lo, y1, y2, rfl⟩ := hW
      obtain ⟨Ta, x, y, rfl, nT, rfl, g1, g2⟩ := hY
      rw [List.length_map] at hi
      have g1 : x = V.int (i : Nat) := (Option.some.inj g1).symm
      have g2 : (r.map V.int)[i]? = some y := g2
      rw [List.getElem?_map, List.getElem?_eq_getElem hi] at g2
      have g2 : y = V.int r[i] := (Option.some.inj g2).symm
      subst g1 g2
      have sT : Same H1 (upd H1 Ta (.tup [.int (i : Nat), .int r[i]])) := same_upd nT
      refine ⟨Ta, [.int (i : Nat), .int r[i]], rfl, .inl (.inl upd_same), rfl, .int (i : Nat), [.int r[i]], rfl, .int r[i], [], rfl, rfl, ?_⟩
      refine ⟨.int r[i], rfl, rfl, _, rfl, ite2 (fun e => ?_) (fun e => ?_)⟩
      · have nz : r.getD i 0 ≠ 0 := fun z => by
          rw [gd_lt hi] at z
          rw [z] at e
          cases e
        have ef := fpR_of nz lo
        refine ⟨.int (i : Nat), rfl, ?_⟩
        have := q1 (by omega) _ (sm.trans sT)
        rw [ef] at this
        exact this
      · refine ⟨sm.trans sT, fun j hj => ?_, _, _, rfl⟩
        by_cases ej : j = i
        · subst ej
          rw [gd_lt hi]
          apply Classical.byContradiction
          intro hn
          apply e
          rw [decide_eq_false (fun z => hn (V.int.inj z))]
          rfl
        · exact lo j (by omega)
    · obtain ⟨sm, lo, y1, y2, rfl⟩ := hW
      refine q2 ?_ _ sm
      rw [List.length_map] at lo
      rcases Nat.lt_or_ge (fpR r) r.length with h | h
      · exact absurd (lo _ h) (fpR_at h)
      · have := fpR_le r
        omega
def sp_cleared (K : PySem.W.Frag) : Sp := fun vs H Q _ => ∃ (a b : Addr) (r c : List Int) (p : Int) (n : Nat), vs = [.int p, .ref b, .ref a] ∧ SqT K H a (r.map V.int) ∧ SqT K H b (c.map V.int) ∧ RowsOk p n [r] ∧ c.length = n ∧ fpR c < n ∧ n ≤ 1000 ∧ 0 < p ∧ p ≤ 100000 ∧
  ∀ H' l, Same H H' → SqT K H' l ((lessR p r c (fpR c)).map V.int) → Q (.ref l) H'
theorem ok_cleared (T : Top K mg) : Ok P w K mg base 2 "cleared" ["p", "plain", "row"] (sp_cleared K) := by
  have O_first_place := ok_first_place (P := P) (w := w) (base := base) T
  have O_added := ok_added (P := P) (w := w) (base := base) T
  have O_times := ok_times (P := P) (w := w) (base := base) T
  refine T.d_cleared.ok sc_cleared (fun vs H Q E h => ?_) (fun f cdv A outer s H vs Q E hr h => ?_)
  · obtain ⟨a, b, r, c, p, n, rfl, _⟩ := h
    rfl
  · obtain ⟨a, b, r, c, p, n, rfl, hA, hB, okr, lc, hfp, hn, hp, hp2, q⟩ := h
    refine ⟨_, ((pss_cons (ps_set (i := 3) sc_cleared.nd rfl (.inl rfl) (pe_ix ix_tup (pv 2) (pe_callO O_first_place (hr.mono (by omega)) (by rfl) (pa_cons (pv 1) pa_nil)) (fun _ _ => rfl)))
      (pss_cons (ps_if (pt_cmpR op_eq (pv 3) pe_int (nomark _))
        (pss_one (ps_ret (pv 2)))
        pss_nil)
      (pss_one (ps_ret (pe_callO O_added (hr.mono (by omega)) (by rfl) (pa_cons (pv 0) (pa_cons (pv 2) (pa_cons (pe_callO O_times (hr.mono (by omega)) (by rfl) (pa_cons (pv 0) (pa_cons (pe_op op_sub (pv 0) (pv 3)) (pa_cons (pv 1) pa_nil)))) pa_nil))))))))), ?_⟩
    have okr := okr r List.mem_cons_self
    have bj := rowOk_getD okr hfp
    refine ⟨.ref a, rfl, .ref b, rfl, b, c, rfl, hB, by omega, fun hlt H1 s1 => ?_, fun e => by omega⟩
    refine ⟨a, _, _, _, rfl, rfl, Same.tup s1 hA, at_row (by rw [okr.1]; exact hfp), ?_⟩
    refine ⟨.int (r.getD (fpR c) 0), rfl, rfl, _, rfl, ite2 (fun e => ?_) (fun e => ?_)⟩
    · have z : r.getD (fpR c) 0 = 0 := V.int.inj (of_decide_eq_true e)
      refine ⟨.ref a, rfl, q H1 a s1 ?_⟩
      unfold lessR
      rw [z, less_zero r c (by rw [okr.1, lc]) okr.2]
      exact Same.tup s1 hA
    · refine ⟨.int p, rfl, .ref a, rfl, .int p, rfl, .int p, rfl, .int (r.getD (fpR c) 0), rfl, _, _, rfl, rfl, .ref b, rfl, b, c, p, _, rfl, Same.tup s1 hB, by omega, hp, by omega, by omega, fun H2 l2 s2 n2 e2 => ?_⟩
      refine ⟨a, l2, r, _, p, rfl, Same.tup (s1.trans s2) hA, .inl (.inl e2), by omega, hp, fun H3 l3 s3 n3 e3 => ?_⟩
      refine q H3 l3 ((s1.trans s2).trans s3) (.inl (.inl ?_))
      rw [less_eq] at e3
      exact e3
def sp_left (K : PySem.W.Frag) : Sp := fun vs H Q _ => ∃ (a b : Addr) (room : List (List Int)) (r : List Int) (p : Int) (n : Nat), vs = [.int p, .ref b, .ref a] ∧ RowsAt K H b room ∧ SqT K H a (r.map V.int) ∧ RowsOk p n room ∧ (∀ c ∈ room, fpR c < n) ∧ RowsOk p n [r] ∧ n ≤ 1000 ∧ 0 < p ∧ p ≤ 100000 ∧
  ∀ H' l, Same H H' → SqT K H' l ((leftR p room r).map V.int) → Q (.ref l) H'
theorem ok_left_of (T : Top K mg) : Ok P w K mg base 3 "left_of" ["p", "room", "row"] (sp_left K) := by
  have O_cleared := ok_cleared (P := P) (w := w) (base := base) T
  refine T.d_left_of.ok sc_left_of (fun vs H Q E h => ?_) (fun f cdv A outer s H vs Q E hr h => ?_)
  · obtain ⟨a, b, room, r, p, n, rfl, _⟩ := h
    rfl
  · obtain ⟨a, b, room, r, p, n, rfl, ⟨ws, hB, hR⟩, hA, ok, hfp, okr, hn, hp, hp2, q⟩ := h
    refine ⟨_, ((pss_cons (ps_for PassesOwn.never (by rfl) (pi_tup (pv 1)) (pg_name (i := 3) sc_left_of.nd rfl (.inl rfl))
        (pss_one (ps_set (i := 2) sc_left_of.nd rfl (.inl rfl) (pe_callO O_cleared (hr.mono (by omega)) (by rfl) (pa_cons (pv 0) (pa_cons (pv 3) (pa_cons (pv 2) pa_nil)))))))
      (pss_one (ps_ret (pv 2))))), ?_⟩
    have lw := rows_len hR
    refine ⟨.ref b, rfl, b, rfl, ⟨_, hB⟩, for_it (walk_tup (K := K) (a := b) (xs := ws)) (fun i σ H' => Same H H' ∧ ∃ (l : Addr) (y3 : Option V), SqT K H' l ((leftR p (room.take i) r).map V.int) ∧ σ = [some (.int p), some (.ref b), some (.ref l), y3]) ⟨Same.refl H, a, none, hA, rfl⟩ (fun i σ H' _ hW => Same.tup hW.1 hB) (fun i x σ H1 H2 hi hW hY => ?_) (fun σ H' hW => ?_)⟩
    · obtain ⟨sm, l, y3, hl, rfl⟩ := hW
      obtain ⟨rfl, e1⟩ := hY
      obtain ⟨c, rc, rfl, gr, mr, hc⟩ := dpAll_row (dpAll_same sm _ _ hR) e1
      have okc := ok rc mr
      refine ⟨.int p, rfl, .ref c, rfl, .ref l, rfl, l, c, leftR p (room.take i) r, rc, p, n, rfl, hl, hc, leftR_ok hp _ _ (fun x hx => ok x (List.mem_of_mem_take hx)) okr, okc.1, hfp rc mr, hn, hp, hp2, fun H3 l3 s3 h3 => ?_⟩
      refine ⟨sm.trans s3, l3, _, ?_, rfl⟩
      rw [leftR_take gr]
      exact h3
    · obtain ⟨sm, l, y3, hl, rfl⟩ := hW
      rw [List.take_of_length_le (by omega)] at hl
      exact ⟨.ref l, rfl, q H' l sm hl⟩
def sp_within (K : PySem.W.Frag) : Sp := fun vs H Q _ => ∃ (a b : Addr) (room : List (List Int)) (r : List Int) (p : Int) (n : Nat), vs = [.int p, .ref b, .ref a] ∧ RowsAt K H b room ∧ SqT K H a (r.map V.int) ∧ PFR p n room ∧ RowsOk p n [r] ∧ Fld p ∧ n ≤ 100 ∧ p ≤ 1000 ∧
  ∀ H', Same H H' → Q (.bl (hasR p n room r)) H'
theorem ok_within (T : Top K mg) : Ok P w K mg base 4 "within" ["p", "room", "row"] (sp_within K) := by
  have O_left_of := ok_left_of (P := P) (w := w) (base := base) T
  have O_is_noughts := ok_is_noughts (P := P) (w := w) (base := base) T
  refine T.d_within.ok sc_within (fun vs H Q E h => ?_) (fun f cdv A outer s H vs Q E hr h => ?_)
  · obtain ⟨a, b, room, r, p, n, rfl, _⟩ := h
    rfl
  · obtain ⟨a, b, room, r, p, n, rfl, hB, hA, pf, okr, hF, hn, hp, q⟩ := h
    have h2 := hF.1
    refine ⟨_, ((pss_one (ps_ret (pe_callO O_is_noughts (hr.mono (by omega)) (by rfl) (pa_cons (pe_callO O_left_of (hr.mono (by omega)) (by rfl) (pa_cons (pv 0) (pa_cons (pv 1) (pa_cons (pv 2) pa_nil)))) pa_nil))))), ?_⟩
    refine ⟨.int p, rfl, .ref b, rfl, .ref a, rfl, a, b, room, r, p, n, rfl, hB, hA, pf.1, pf.fp_lt hF, okr, by omega, by omega, by omega, fun H1 l s1 h1 => ?_⟩
    have okl := pf.left_ok hF okr _ List.mem_cons_self
    refine ⟨l, _, rfl, h1, by omega, fun H' s' => ?_⟩
    rw [hasR_iff hF pf okr]
    exact q H' (s1.trans s')
def sp_widened (K : PySem.W.Frag) : Sp := fun vs H Q _ => ∃ (a b : Addr) (room : List (List Int)) (r : List Int) (p : Int) (n : Nat), vs = [.int p, .ref b, .ref a] ∧ RowsAt K H b room ∧ SqT K H a (r.map V.int) ∧ PFR p n room ∧ RowsOk p n [r] ∧ Fld p ∧ 1 ≤ n ∧ n ≤ 100 ∧ p ≤ 1000 ∧
  ∀ H' l, Same H H' → RowsAt K H' l (plainR p n (room ++ [r])) → Q (.ref l) H'
theorem ok_widened (T : Top K mg) : Ok P w K mg base 4 "widened" ["p", "room", "row"] (sp_widened K) := by
  have O_left_of := ok_left_of (P := P) (w := w) (base := base) T
  have O_first_place := ok_first_place (P := P) (w := w) (base := base) T
  have O_times := ok_times (P := P) (w := w) (base := base) T
  have O_contrary := ok_contrary (P := P) (w := w) (base := base) T
  have O_cleared := ok_cleared (P := P) (w := w) (base := base) T
  refine T.d_widened.ok sc_widened (fun vs H Q E h => ?_) (fun f cdv A outer s H vs Q E hr h => ?_)
  · obtain ⟨a, b, room, r, p, n, rfl, _⟩ := h
    rfl
  · obtain ⟨a, b, room, r, p, n, rfl, hB, hA, pf, okr, hF, n1, hn, hp, q⟩ := h
    have h2 := hF.1
    have lroom : room.length ≤ n := by
      have := plainR_lenle hF pf.1
      rwa [pf.2] at this
    refine ⟨_, ((pss_cons (ps_set (i := 3) sc_widened.nd rfl (.inl rfl) (pe_callO O_left_of (hr.mono (by omega)) (by rfl) (pa_cons (pv 0) (pa_cons (pv 1) (pa_cons (pv 2) pa_nil)))))
      (pss_cons (ps_set (i := 4) sc_widened.nd rfl (.inl rfl) (pe_callO O_first_place (hr.mono (by omega)) (by rfl) (pa_cons (pv 3) pa_nil)))
      (pss_cons (ps_if (pt_cmpR op_isN (pv 4) pe_non (nomark _))
        (pss_one (ps_ret (pv 1)))
        pss_nil)
      (pss_cons (ps_set (i := 5) sc_widened.nd rfl (.inr rfl) (pe_callO O_times (hr.mono (by omega)) (by rfl) (pa_cons (pv 0) (pa_cons (pe_callO O_contrary (hr.mono (by omega)) (by rfl) (pa_cons (pv 0) (pa_cons (pe_ix ix_tup (pv 3) (pv 4) (fun _ _ => rfl)) pa_nil))) (pa_cons (pv 3) pa_nil)))))
      (pss_one (ps_ret (pe_callTy call_tuple_of (by rfl) T.b_tuple (by decide +kernel) (pa_cons (pe_callBK cr_sortTR (by rfl) T.b_sorted (by decide +kernel) (pa_cons (pe_op op_cat (pe_lst (pa_cons (pv 5) pa_nil)) (pe_lc (own := [("plain", 6)]) (g := gName 6) (by rfl) sc_widened.nd (pi_tup (pv 1)) (blkOk_by (own := [("plain", 6)]) (N := N_widened) (sc := defScope s_widened) (by decide +kernel)) (fun _ _ _ _ _ => (pg_name (i := 6) sc_widened.nd rfl (.inl rfl))) (fun _ _ _ _ _ => pts_nil) (fun _ _ _ _ _ => (pe_callO O_cleared (hr.mono (by omega)) (by rfl) (pa_cons (pv 0) (pa_cons (pv 5) (pa_cons (pv 6) pa_nil))))))) pa_nil) (pk_cons pe_bl pk_nil)) pa_nil))))))))), ?_⟩
    refine ⟨.int p, rfl, .ref b, rfl, .ref a, rfl, a, b, room, r, p, n, rfl, hB, hA, pf.1, pf.fp_lt hF, okr, by omega, by omega, by omega, fun H1 l s1 h1 => ?_⟩
    have okl := pf.left_ok hF okr _ List.mem_cons_self
    have wid := fun rs => pf.widen (rs := rs) hF okr
    have wid0 := pf.widen0 hF okr
    generalize hy : leftR p room r = y at h1 okl wid wid0
    refine ⟨.ref l, rfl, l, y, rfl, h1, by omega, fun hlt H2 s2 => ?_, fun e H2 s2 => ?_⟩
    · -- a fresh row
      refine ⟨.int (fpR y : Int), rfl, rfl, _, rfl, ?_⟩
      rw [decide_eq_false (fun z => by cases z)]
      refine iteF ?_
      rw [okl.1] at hlt
      have bj := rowOk_getD okl hlt
      have nz : y.getD (fpR y) 0 ≠ 0 := fpR_at (by rw [okl.1]; exact hlt)
      have hl2 := Same.tup s2 h1
      refine ⟨.int p, rfl, .int p, rfl, .ref l, rfl, .int (fpR y : Int), rfl, l, _, _, _, rfl, rfl, hl2, at_row (by rw [okl.1]; exact hlt), p, _, rfl, hF, hp, by omega, bj.2, .ref l, rfl, l, y, p, ctr p (y.getD (fpR y) 0), rfl, hl2, by omega, by omega, ?_, ?_, fun H3 l3 s3 n3 e3 => ?_⟩
      · have := (ctr_ok hF (show 1 ≤ y.getD (fpR y) 0 by omega) bj.2).1
        omega
      · have := (ctr_ok hF (show 1 ≤ y.getD (fpR y) 0 by omega) bj.2).2.1
        omega
      have e3 : H3 l3 = some (.tup ((ownR p y (fpR y)).map V.int)) := e3
      have okf := own_row (p := p) (by omega) okl.1 (fpR y)
      have wid := fun rs => wid rs hlt
      -- its first place
      have ff : fpR (ownR p y (fpR y)) = fpR y := by
        have hc := ctr_ok hF (show 1 ≤ y.getD (fpR y) 0 by omega) bj.2
        have gd : ∀ i, i < n → (ownR p y (fpR y)).getD i 0 = ctr p (y.getD (fpR y) 0) * y.getD i 0 % p := fun i hi => by
          unfold ownR
          rw [gd_lt (by rw [List.length_map, okl.1]; exact hi), List.getElem_map, gd_lt (r := y) (i := i) (by rw [okl.1]; exact hi)]
        refine fpR_of ?_ fun i hi => ?_
        · rw [gd _ hlt, Int.mul_comm, hc.2.2]
          decide
        · rw [gd _ (by omega), fpR_low hi, Int.mul_zero, Int.zero_emod]
      generalize ownR p y (fpR y) = fr at e3 okf wid ff
      refine ⟨.ref l3, rfl, sz1000 (by decide : (1 : Nat) ≤ 1000), fun L nL => ?_⟩
      generalize h4 : upd H3 L _ = H4
      obtain ⟨s4, e4⟩ := new_of h4 nL
      have t14 : Same H H4 := ((s1.trans s2).trans s3).trans s4
      obtain ⟨ws, hB4, hR4⟩ := RowsAt.same t14 hB
      have lw := rows_len hR4
      have hf4 : SqT K H4 l3 (fr.map V.int) := .inl (.inl (s4 _ _ e3))
      refine ⟨.ref b, rfl, b, rfl, ⟨_, hB4⟩, lc_mapR (fun d => rowD (lessR p (intsOf d) fr (fpR fr))) (walk_tup (K := K) (a := b) (xs := ws)) (fun H' s => Same.tup s hB4) (rep_rows hR4) (by omega) (fun _ => rfl) (fun v d H' Q' md rv sm hQ => ?_) (fun D H5 vs5 s5 n5 e5 r5 => ?_)⟩
      · obtain ⟨x, mx, rfl⟩ := List.mem_map.mp md
        obtain ⟨c, rfl, hc⟩ := rep_row rv
        rw [ints_row] at hQ
        refine ⟨.int p, rfl, .ref l3, rfl, .ref c, rfl, c, l3, x, fr, p, n, rfl, hc, Same.tup sm hf4, rowsOk_one (pf.1 x mx), okf.1, by omega, by omega, by omega, by omega, fun H'' l'' s'' h'' => hQ (.ref l'') H'' s'' (row_rep h'')⟩
      have em : (room.map rowD).map (fun d => rowD (lessR p (intsOf d) fr (fpR fr))) = (room.map fun x => lessR p x fr (fpR y)).map rowD := by
        rw [List.map_map, List.map_map]
        apply List.map_congr_left
        intro x _
        show rowD (lessR p (intsOf (rowD x)) fr (fpR fr)) = rowD (lessR p x fr (fpR y))
        rw [ints_row, ff]
      rw [em] at r5
      have d5 := rows_rep r5
      have lv5 : vs5.length = room.length := by
        have := rows_len d5
        rwa [List.length_map] at this
      have e45 := s5 _ _ e4
      refine ⟨L, D, _, _, rfl, rfl, e45, e5, sz1000 (by simp; omega), fun C nC => ?_⟩
      generalize h6 : upd H5 C _ = H6
      obtain ⟨s6, e6⟩ := new_of h6 nC
      have t46 : Same H4 H6 := s5.trans s6
      have hf6 := Same.tup t46 hf4
      have d6 : DpAll K H6 ([V.ref l3] ++ vs5) ((fr :: room.map fun x => lessR p x fr (fpR y)).map rowD) := .cons (row_dp hf6) (dpAll_same s6 _ _ d5)
      have okL : RowsOk p n (fr :: room.map fun x => lessR p x fr (fpR y)) := fun x hx => by
        rcases List.mem_cons.mp hx with rfl | hx
        · exact okf
        · obtain ⟨z, hz, rfl⟩ := List.mem_map.mp hx
          exact less_row (by omega) (pf.1 z hz).1 okf.1 _
      refine ⟨C, _, n, p, rfl, rfl, n1, .inl (.inl e6), fun x hx => ?_, fun ys S pm pw nS => ?_⟩
      · obtain ⟨i, hi, rfl⟩ := List.getElem_of_mem hx
        obtain ⟨c, rc, ec, gr, mr, hc⟩ := dpAll_row d6 (List.getElem?_eq_getElem hi)
        exact ⟨rc, ⟨c, ec, hc⟩, (okL rc mr).1, (okL rc mr).2⟩
      generalize h7 : upd H6 S _ = H7
      obtain ⟨s7, e7⟩ := new_of h7 nS
      obtain ⟨rs', pm', d'⟩ := dpAll_perm pm d6
      have pw' := dpAll_pw d' pw
      have er := wid rs' pm' pw'
      refine ⟨S, ys, rfl, .inl ⟨.inl (.inl e7), fun R nR => ?_⟩⟩
      generalize h8 : upd H7 R _ = H8
      obtain ⟨s8, e8⟩ := new_of h8 nR
      refine q H8 R (((t14.trans t46).trans s7).trans s8) ⟨ys, .inl (.inl e8), ?_⟩
      rw [← er]
      exact dpAll_same (s7.trans s8) _ _ d'
    · -- nothing new
      refine ⟨.non, rfl, rfl, _, rfl, ?_⟩
      rw [decide_eq_true rfl]
      refine iteT ⟨.ref b, rfl, q H2 b (s1.trans s2) ?_⟩
      rw [← wid0 (fpR_all e)]
      exact RowsAt.same (s1.trans s2) hB
def sp_room_of (K : PySem.W.Frag) : Sp := fun vs H Q _ => ∃ (a : Addr) (rs : List (List Int)) (p : Int) (n : Nat), vs = [.int p, .int (n : Int), .ref a] ∧ RowsAt K H a rs ∧ RowsOk p n rs ∧ Fld p ∧ 1 ≤ n ∧ n ≤ 100 ∧ p ≤ 1000 ∧
  ∀ H' l, Same H H' → RowsAt K H' l (plainR p n rs) → Q (.ref l) H'
theorem ok_room_of (T : Top K mg) : Ok P w K mg base 5 "room_of" ["p", "n", "rows"] (sp_room_of K) := by
  have O_widened := ok_widened (P := P) (w := w) (base := base) T
  refine T.d_room_of.ok sc_room_of (fun vs H Q E h => ?_) (fun f cdv A outer s H vs Q E hr h => ?_)
  · obtain ⟨a, rs, p, n, rfl, _⟩ := h
    rfl
  · obtain ⟨a, rs, p, n, rfl, ⟨ws, hA, hR⟩, ok, hF, n1, hn, hp, q⟩ := h
    refine ⟨_, ((pss_cons (ps_set (i := 3) sc_room_of.nd rfl (.inl rfl) (pe_tup pa_nil))
      (pss_cons (ps_for PassesOwn.never (by rfl) (pi_tup (pv 2)) (pg_name (i := 4) sc_room_of.nd rfl (.inl rfl))
        (pss_cons (ps_if (pt_cmpR op_eq (pe_callB call_len_seq (by rfl) T.b_len (by decide +kernel) (pa_cons (pv 3) pa_nil)) (pv 1) (nomark _))
          (pss_one (ps_ret (pv 3)))
          pss_nil)
        (pss_one (ps_set (i := 3) sc_room_of.nd rfl (.inl rfl) (pe_callO O_widened (hr.mono (by omega)) (by rfl) (pa_cons (pv 0) (pa_cons (pv 3) (pa_cons (pv 4) pa_nil))))))))
      (pss_one (ps_ret (pv 3)))))), ?_⟩
    have lw := rows_len hR
    refine ⟨Nat.zero_le _, fun z nz => ?_⟩
    generalize h1 : upd H z _ = H1
    obtain ⟨s1, e1⟩ := new_of h1 nz
    have hA1 := Same.tup s1 hA
    refine ⟨.ref a, rfl, a, rfl, ⟨_, hA1⟩, for_it (walk_tup (K := K) (a := a) (xs := ws)) (fun i σ H' => Same H H' ∧ ∃ (b : Addr) (y4 : Option V), RowsAt K H' b (plainR p n (rs.take i)) ∧ σ = [some (.int p), some (.int (n : Int)), some (.ref a), some (.ref b), y4]) ⟨s1, z, none, ⟨[], .inl (.inl e1), ?_⟩, rfl⟩ (fun i σ H' _ hW => Same.tup hW.1 hA) (fun i x σ H2 H3 hi hW hY => ?_) (fun σ H' hW => ?_)⟩
    · rw [List.take_zero, plainR_nil]
      exact .nil
    · obtain ⟨sm, b, y4, hb, rfl⟩ := hW
      obtain ⟨rfl, e1⟩ := hY
      obtain ⟨c, r, rfl, gr, mr, hc⟩ := dpAll_row (dpAll_same sm _ _ hR) e1
      have okt : RowsOk p n (rs.take i) := fun x hx => ok x (List.mem_of_mem_take hx)
      have okr : RowsOk p n [r] := rowsOk_one (ok r mr)
      have pf := PFR.of_plain hF okt
      have eapp : rs.take (i + 1) = rs.take i ++ [r] := by
        rw [List.take_add_one, gr]
        rfl
      obtain ⟨wb, hb1, hb2⟩ := id hb
      have lb := rows_len hb2
      refine ⟨.ref b, rfl, b, wb, rfl, .inr hb1, .int n, rfl, rfl, _, rfl, ite2 (fun e => ?_) (fun e => ?_)⟩
      · have e : wb.length = n := by
          have := V.int.inj (of_decide_eq_true e)
          omega
        refine ⟨.ref b, rfl, q _ b sm ?_⟩
        have ef : plainR p n rs = plainR p n (rs.take i) := by
          have := plain_full hF okt (show RowsOk p n (rs.drop i) from fun x hx => ok x (List.mem_of_mem_drop hx)) (by omega)
          rwa [List.take_append_drop] at this
        rw [ef]
        exact hb
      · refine ⟨.int p, rfl, .ref b, rfl, .ref c, rfl, c, b, plainR p n (rs.take i), r, p, n, rfl, hb, hc, pf, okr, hF, n1, hn, hp, fun H4 l s4 h4 => ?_⟩
        refine ⟨sm.trans s4, l, _, ?_, rfl⟩
        rw [eapp, ← plainR_app hF okt okr]
        exact h4
    · obtain ⟨sm, b, y4, hb, rfl⟩ := hW
      rw [List.take_of_length_le (by omega)] at hb
      exact ⟨.ref b, rfl, q H' b sm hb⟩
theorem rep_flat (n : Nat) (z : Int) : (List.replicate n [V.int z]).flatten = (List.replicate n z).map V.int := by
  induction n with
  | zero => rfl
  | succ n ih =>
    rw [List.replicate_succ, List.flatten_cons, ih]
    rfl
def sp_across_at (K : PySem.W.Frag) : Sp := fun vs H Q _ => ∃ (a : Addr) (room : List (List Int)) (p : Int) (n j : Nat), vs = [.int p, .int (n : Int), .ref a, .int (j : Int)] ∧ RowsAt K H a room ∧ RowsOk p n room ∧ (∀ c ∈ room, fpR c < n) ∧ j < n ∧ n ≤ 1000 ∧ 2 ≤ p ∧
  ∀ H' l, Same H H' → H' l = some (.tup ((crossR p n room j).map V.int)) → Q (.ref l) H'
theorem ok_across_at (T : Top K mg) : Ok P w K mg base 2 "across_at" ["p", "n", "room", "at"] (sp_across_at K) := by
  have O_first_place := ok_first_place (P := P) (w := w) (base := base) T
  refine T.d_across_at.ok sc_across_at (fun vs H Q E h => ?_) (fun f cdv A outer s H vs Q E hr h => ?_)
  · obtain ⟨a, room, p, n, j, rfl, _⟩ := h
    rfl
  · obtain ⟨a, room, p, n, j, rfl, ⟨ws, hA, hR⟩, ok, hfp, hj, hn, hp, q⟩ := h
    refine ⟨_, ((pss_cons (ps_set (i := 4) sc_across_at.nd rfl (.inl rfl) (pe_op op_rep (pe_lst (pa_cons pe_int pa_nil)) (pv 1)))
      (pss_cons (ps_asg pe_int (pg_sub (pv 4) (pv 3) set_list))
      (pss_cons (ps_for PassesOwn.never (by rfl) (pi_tup (pv 2)) (pg_name (i := 5) sc_across_at.nd rfl (.inl rfl))
        (pss_one (ps_asg (pe_op op_mod (pe_un un_neg (pe_ix ix_tup (pv 5) (pv 3) (fun _ _ => rfl))) (pv 0)) (pg_sub (pv 4) (pe_callO O_first_place (hr.mono (by omega)) (by rfl) (pa_cons (pv 5) pa_nil)) set_list))))
      (pss_one (ps_ret (pe_callTy call_tuple_of (by rfl) T.b_tuple (by decide +kernel) (pa_cons (pv 4) pa_nil)))))))), ?_⟩
    have lw := rows_len hR
    refine ⟨sz1000 (by decide : (1 : Nat) ≤ 1000), fun z nz => ?_⟩
    generalize h1 : upd H z _ = H1
    obtain ⟨s1, e1⟩ := new_of h1 nz
    refine ⟨.int n, rfl, z, n, _, rfl, rfl, e1, by omega, by omega, sz1000 (by show 1 * ((n : Int)).toNat ≤ 1000; omega), fun o no => ?_⟩
    rw [show ((n : Int)).toNat = n from rfl, rep_flat]
    generalize h2 : upd H1 o _ = H2
    obtain ⟨s2, e2⟩ := new_of h2 no
    have noH : H o = none := s1.free no
    have s12 := s1.trans s2
    refine ⟨.ref o, rfl, .int j, rfl, o, _, j, j, rfl, rfl, e2, ?_, ?_⟩
    · rw [List.length_map, List.length_replicate]
      exact ix_nat (by omega) (by omega)
    rw [show (V.int 1) = V.int (1 : Int) from rfl, ← List.map_set]
    have s3 : Same H (upd H2 o (.lst (((List.replicate n (0 : Int)).set j 1).map V.int))) := same_mut s12 noH
    generalize h3 : upd H2 o (.lst (((List.replicate n (0 : Int)).set j 1).map V.int)) = H3 at s3
    have e3 : H3 o = some (.lst (((List.replicate n (0 : Int)).set j 1).map V.int)) := by rw [← h3]; exact upd_same
    refine ⟨.ref a, rfl, a, rfl, ⟨_, Same.tup s3 hA⟩, for_it (walk_tup (K := K) (a := a) (xs := ws)) (fun i σ H' => Same H H' ∧ H' o = some (.lst ((crossF p (room.take i) j ((List.replicate n 0).set j 1)).map V.int)) ∧ ∃ y5 : Option V, σ = [some (.int p), some (.int (n : Int)), some (.ref a), some (.int (j : Int)), some (.ref o), y5]) ⟨s3, e3, none, rfl⟩ (fun i σ H' _ hW => Same.tup hW.1 hA) (fun i x σ H4 H5 hi hW hY => ?_) (fun σ H' hW => ?_)⟩
    · obtain ⟨sm, eo, y5, rfl⟩ := hW
      obtain ⟨rfl, e1⟩ := hY
      obtain ⟨c, r, rfl, gr, mr, hc⟩ := dpAll_row (dpAll_same sm _ _ hR) e1
      have okr := ok r mr
      have hf := hfp r mr
      refine ⟨.ref c, rfl, .int j, rfl, c, _, _, _, rfl, rfl, hc, at_row (by rw [okr.1]; exact hj), r.getD j 0, rfl, .int p, rfl, _, p, rfl, rfl, by omega, ?_⟩
      refine ⟨.ref o, rfl, .ref c, rfl, c, r, rfl, hc, by omega, fun hlt H6 s6 => ?_, fun e => by omega⟩
      refine ⟨o, _, fpR r, fpR r, rfl, rfl, s6 _ _ eo, ?_, same_mut (sm.trans s6) noH, ?_, _, rfl⟩
      · rw [List.length_map, crossF_len, List.length_set, List.length_replicate]
        exact ix_nat (by omega) (by omega)
      · rw [upd_same, ← List.map_set, crossF_take gr]
    · obtain ⟨sm, eo, y5, rfl⟩ := hW
      rw [List.take_of_length_le (by omega)] at eo
      refine ⟨.ref o, rfl, o, _, rfl, .inl ⟨.inl (.inl eo), fun l nl => ?_⟩⟩
      generalize h5 : upd H' l _ = H5
      obtain ⟨s5, e5⟩ := new_of h5 nl
      exact q H5 l (sm.trans s5) e5
def sp_across (K : PySem.W.Frag) : Sp := fun vs H Q _ => ∃ (a : Addr) (room : List (List Int)) (p : Int) (n : Nat), vs = [.int p, .int (n : Int), .ref a] ∧ RowsAt K H a room ∧ PFR p n room ∧ Fld p ∧ 1 ≤ n ∧ n ≤ 100 ∧ p ≤ 1000 ∧
  ∀ H' l, Same H H' → RowsAt K H' l (acrossR p n room) → Q (.ref l) H'
theorem range_filter_succ (q : Nat → Bool) (k : Nat) : (List.range (k + 1)).filter q = (List.range k).filter q ++ (if q k = true then [k] else []) := by
  rw [List.range_succ, List.filter_append]
  congr 1
  by_cases h : q k = true
  · simp [h]
  · simp [h]
theorem ok_across (T : Top K mg) : Ok P w K mg base 6 "across" ["p", "n", "room"] (sp_across K) := by
  have O_first_place := ok_first_place (P := P) (w := w) (base := base) T
  have O_across_at := ok_across_at (P := P) (w := w) (base := base) T
  have O_room_of := ok_room_of (P := P) (w := w) (base := base) T
  refine T.d_across.ok sc_across (fun vs H Q E h => ?_) (fun f cdv A outer s H vs Q E hr h => ?_)
  · obtain ⟨a, room, p, n, rfl, _⟩ := h
    rfl
  · obtain ⟨a, room, p, n, rfl, ⟨ws, hA, hR⟩, pf, hF, n1, hn, hp, q⟩ := h
    have h2 := hF.1
    refine ⟨_, ((pss_cons (ps_set (i := 4) sc_across.nd rfl (.inr rfl) (pe_lc (own := [("plain", 3)]) (g := gName 3) (by rfl) sc_across.nd (pi_tup (pv 2)) (blkOk_by (own := [("plain", 3)]) (N := N_across) (sc := defScope s_across) (by decide +kernel)) (fun _ _ _ _ _ => (pg_name (i := 3) sc_across.nd rfl (.inl rfl))) (fun _ _ _ _ _ => pts_nil) (fun _ _ _ _ _ => (pe_callO O_first_place (hr.mono (by omega)) (by rfl) (pa_cons (pv 3) pa_nil)))))
      (pss_one (ps_ret (pe_callO O_room_of (hr.mono (by omega)) (by rfl) (pa_cons (pv 0) (pa_cons (pv 1) (pa_cons (pe_callTy call_tuple_of (by rfl) T.b_tuple (by decide +kernel) (pa_cons (pe_lc (own := [("at", 5)]) (g := gName 5) (by rfl) sc_across.nd (pi_range1 (by rfl) T.b_range (pa_cons (pv 1) pa_nil)) (blkOk_by (own := [("at", 5)]) (N := N_across) (sc := defScope s_across) (by decide +kernel)) (fun _ _ _ _ _ => (pg_name (i := 5) sc_across.nd rfl (.inl rfl))) (fun _ _ _ _ _ => (pts_one (pt_cmpR (show OpR _ (compareOp .NotIn) (rIn K true) from op_notIn_seq) (pv 5) (pv 4) (by rfl)))) (fun _ _ _ _ _ => (pe_callO O_across_at (hr.mono (by omega)) (by rfl) (pa_cons (pv 0) (pa_cons (pv 1) (pa_cons (pv 2) (pa_cons (pv 5) pa_nil))))))) pa_nil)) pa_nil)))))))), ?_⟩
    have lw := rows_len hR
    have lrm : room.length ≤ n := by
      have := plainR_lenle hF pf.1
      rwa [pf.2] at this
    have fp := pf.fp_lt hF
    refine ⟨.ref a, rfl, a, rfl, ⟨_, hA⟩, lc_valR (fun d => V.int (fpR (intsOf d) : Int)) (walk_tup (K := K) (a := a) (xs := ws)) (fun H' s => Same.tup s hA) (rep_rows hR) (by omega) (fun _ => rfl) (fun v d H' Q' md rv sm hQ => ?_) (fun F1 H1 s1 nF eF => ?_)⟩
    · obtain ⟨r, mr, rfl⟩ := List.mem_map.mp md
      obtain ⟨c, rfl, hc⟩ := rep_row rv
      rw [ints_row] at hQ
      have okr := pf.1 r mr
      exact ⟨.ref c, rfl, c, r, rfl, hc, by omega, fun _ H'' s'' => hQ H'' s'', fun e => by have := fp r mr; omega⟩
    have eF : H1 F1 = some (.lst ((room.map fun r => (fpR r : Int)).map V.int)) := by
      rw [List.map_map] at eF
      rw [List.map_map, eF]
      congr 2
      apply List.map_congr_left
      intro r _
      show V.int (fpR (intsOf (rowD r)) : Int) = V.int (fpR r : Int)
      rw [ints_row]
    refine ⟨.int p, rfl, .int n, rfl, .int n, rfl, n, rfl, by omega, by omega, fun D nD => ?_⟩
    have hA1 := Same.tup s1 hA
    refine lc_it (walk_range (lo := 0) (n := n)) (fun k H' => Same H1 H' ∧ ∃ vs' : List V, H' D = some (.lst vs') ∧ vs'.length ≤ k ∧ DpAll K H' vs' ((((List.range k).filter fun j => !decide (j ∈ room.map fpR)).map (crossR p n room)).map rowD)) ⟨same_upd nD, [], upd_same, Nat.le_refl _, .nil⟩ (fun _ _ _ _ => True.intro) (fun k x H2 H3 hk hP hY => ?_) (fun H' hP => ?_)
    · obtain ⟨rfl, rfl⟩ := hY
      obtain ⟨sm, vs', eD, lv, dv⟩ := hP
      refine ⟨rfl, .int (0 + k), rfl, .ref F1, rfl, F1, _, rfl, .inl (.inl (.inl (sm _ _ eF))), rfl, ?_, _, rfl, ?_⟩
      · rw [List.all_map]
        exact List.all_eq_true.mpr fun _ _ => rfl
      rw [in_ints]
      have ed : decide ((0 : Int) + (k : Int) ∈ room.map fun r => (fpR r : Int)) = decide (k ∈ room.map fpR) := by
        refine decide_eq_decide.mpr ?_
        rw [List.mem_map, List.mem_map]
        constructor
        · rintro ⟨r, hr, e⟩
          exact ⟨r, hr, by omega⟩
        · rintro ⟨r, hr, e⟩
          exact ⟨r, hr, by omega⟩
      rw [ed]
      have tkr := range_filter_succ (fun j => !decide (j ∈ room.map fpR)) k
      by_cases hin : k ∈ room.map fpR
      · rw [decide_eq_true hin] at tkr ⊢
        refine iteF ⟨sm, vs', eD, by omega, ?_⟩
        rw [tkr, if_neg (by decide), List.append_nil]
        exact dv
      · rw [decide_eq_false hin] at tkr ⊢
        refine iteT ⟨.int p, rfl, .int n, rfl, .ref a, rfl, .int (0 + k), rfl, a, room, p, n, k, by rw [Int.zero_add]; rfl, ⟨ws, Same.tup sm hA1, dpAll_same (s1.trans sm) _ _ hR⟩, pf.1, fp, hk, by omega, by omega, fun H4 l s4 e4 => ?_⟩
        have eD4 := s4 _ _ eD
        have tk : Tk H4 (upd H4 D (.lst (vs' ++ [.ref l]))) := Tk.mut (Tk.refl H4) eD4
        refine ⟨vs', eD4, small1000 (by omega), same_mut (sm.trans s4) nD, vs' ++ [.ref l], upd_same, by rw [List.length_append]; simp; omega, ?_⟩
        rw [tkr, if_pos (by decide), List.map_append, List.map_append]
        exact dpAll_append (dpAll_tk tk _ _ (noL_rows _) (dpAll_same s4 _ _ dv)) (.cons (row_dp (tk K _ _ (.inl (.inl e4)))) .nil)
    · obtain ⟨sm, vs', eD, lv, dv⟩ := hP
      refine ⟨D, vs', rfl, .inl ⟨.inl (.inl eD), fun l nl => ?_⟩⟩
      generalize h5 : upd H' l _ = H5
      obtain ⟨s5, e5⟩ := new_of h5 nl
      refine ⟨l, (freesR n room).map (crossR p n room), p, n, rfl, ⟨vs', .inl (.inl e5), dpAll_same s5 _ _ dv⟩, free_rows h2 n room, hF, n1, hn, hp, fun H6 l6 s6 h6 => ?_⟩
      exact q H6 l6 (((s1.trans sm).trans s5).trans s6) h6
def sp_deck (K : PySem.W.Frag) : Sp := fun vs H Q _ => ∃ (a : Addr) (ns : List Int), vs = [.ref a] ∧ SqL K H a (ns.map V.int) ∧ ns.length ≤ 63 ∧ ∀ H' d c, Same H H' → Deck H' d c 0 → H d = none → H c = none → Q (.ref d) H'
theorem ok__law_deck (T : Top K mg) : Ok P w K mg base 1 "_law_deck" ["_law_script"] (sp_deck K) := by
  refine T.d__law_deck.ok sc__law_deck (fun vs H Q E h => ?_) (fun f cdv A outer s H vs Q E hr h => ?_)
  · obtain ⟨a, ns, rfl, _⟩ := h
    rfl
  · obtain ⟨a, ns, rfl, hS, hl, q⟩ := h
    refine ⟨_, ((pss_one (ps_ret (pe_lst (pa_cons (pe_lc (own := [("_law_cell", 1)]) (g := gName 1) (by rfl) sc__law_deck.nd (pi_list (pe_slice sl_list (pv 0) po_none (po_some pe_int))) (blkOk_by (own := [("_law_cell", 1)]) (N := N__law_deck) (sc := defScope s__law_deck) (by decide +kernel)) (fun _ _ _ _ _ => (pg_name (i := 1) sc__law_deck.nd rfl (.inl rfl))) (fun _ _ _ _ _ => pts_nil) (fun _ _ _ _ _ => (pe_callB call_abs (by rfl) T.b_abs (by decide +kernel) (pa_cons (pv 1) pa_nil)))) (pa_cons pe_int pa_nil)))))), ?_⟩
    refine ⟨.ref a, rfl, 63, rfl, a, ns.map V.int, rfl, hS, fun l nl => ?_⟩
    have ec : cutV (ns.map V.int) none (some 63) = ns.map V.int := by
      unfold cutV
      rw [HT.sIx_none, show HT.sIx (ns.map V.int).length (ns.map V.int).length (some 63) = min 63 (ns.map V.int).length from HT.sIx_nat _ _ 63]
      rw [List.drop_zero]
      exact List.take_of_length_le (by rw [List.length_map]; omega)
    rw [ec]
    have s1 : Same H (upd H l (.lst (ns.map V.int))) := same_upd nl
    refine ⟨l, rfl, ⟨_, .inl (.inl upd_same)⟩, fun D nD => ?_⟩
    have nl' : H D = none := s1.free nD
    have nDl : l ≠ D := ne_of_none upd_same nD
    refine lc_list (xs := ns.map V.int) (fun i H' => Same H H' ∧ H' l = some (.lst (ns.map V.int)) ∧ H' D = some (.lst ((ns.take i).map fun x => V.int (if x < 0 then -x else x)))) ⟨same_mut s1 nl', ?_, ?_⟩ (fun i H' _ hP => .inl (.inl hP.2.1)) (fun i x H' hx hP => ?_) (fun H' hP => ?_)
    · rw [upd_ne nDl, upd_same]
    · rw [upd_same]; rfl
    · obtain ⟨sm, e1, e2⟩ := hP
      rw [List.getElem?_map] at hx
      cases hn : ns[i]? with
      | none => rw [hn] at hx; cases hx
      | some z =>
        rw [hn] at hx
        have ez : x = V.int z := (Option.some.inj hx).symm
        subst ez
        refine ⟨rfl, .int z, rfl, z, rfl, _, e2, ?_, same_mut sm nl', ?_, ?_⟩
        · rw [List.length_map, List.length_take]
          exact Nat.lt_of_le_of_lt (Nat.min_le_right _ _) (small1000 (by omega))
        · rw [upd_ne nDl]; exact e1
        · rw [upd_same, List.take_add_one, hn, List.map_append]
          rfl
    · obtain ⟨sm, e1, e2⟩ := hP
      rw [List.length_map, List.take_length] at e2
      refine ⟨(by show 2 ≤ sizeLine; decide), fun p np => ?_⟩
      have sp : Same H' (upd H' p (.lst [.ref D, .int 0])) := same_upd np
      refine q _ p D (sm.trans sp) ⟨upd_same, ⟨ns.map fun x => if x < 0 then -x else x, ?_, fun x hx => ?_, by rw [List.length_map]; exact hl⟩, fun z => ?_, by decide⟩ (sm.free np) nl'
      · rw [sp _ _ e2, List.map_map]
        rfl
      · obtain ⟨y, _, rfl⟩ := List.mem_map.mp hx
        by_cases hy : y < 0
        · rw [if_pos hy]; omega
        · rw [if_neg hy]; omega
      · subst z
        rw [e2] at np
        cases np
theorem wide_m {m : Int} (h0 : 0 < m) (h1 : m < 100000000000000000000) : m.natAbs.log2 < 9000 := by
  have e : (2 : Nat) ^ 67 = 147573952589676412928 := by decide
  have := PySem.Flt.log2_lt_of (k := 67) (n := m.natAbs) (by decide) (by rw [e]; omega)
  omega
def sp_draw : Sp := fun vs H Q _ => ∃ (d c : Addr) (t m : Int), vs = [.ref d, .int m] ∧ Deck H d c t ∧ t < 1000000 ∧ 0 < m ∧ m < 100000000000000000000 ∧ ∀ H' r, Kept d c H H' → Deck H' d c (t + 1) → 0 ≤ r → r < m → Q (.int r) H'
theorem ok__law_draw (T : Top K mg) : Ok P w K mg base 1 "_law_draw" ["_law_deck_here", "_law_many"] sp_draw := by
  refine T.d__law_draw.ok sc__law_draw (fun vs H Q E h => ?_) (fun f cdv A outer s H vs Q E hr h => ?_)
  · obtain ⟨d, c, t, m, rfl, _⟩ := h
    rfl
  · obtain ⟨d, c, t, m, rfl, ⟨hd, ⟨cells, hc, hp, hl⟩, hne, ht0⟩, ht, hm0, hm1, q⟩ := h
    refine ⟨_, ((pss_cons (ps_asg (pe_op op_add (pe_ix ix_list (pv 0) pe_int (fun _ _ => rfl)) pe_int) (pg_sub (pv 0) pe_int set_list))
      (pss_cons (ps_set (i := 2) sc__law_draw.nd rfl (.inl rfl) pe_int)
      (pss_cons (ps_set (i := 3) sc__law_draw.nd rfl (.inl rfl) (pe_un un_neg pe_int))
      (pss_cons (ps_if (pt_cmpR op_gt (pe_callB call_len_seq (by rfl) T.b_len (by decide +kernel) (pa_cons (pe_ix ix_list (pv 0) pe_int (fun _ _ => rfl)) pa_nil)) pe_int (nomark _))
        (pss_cons (ps_set (i := 3) sc__law_draw.nd rfl (.inl rfl) (pe_op op_mod (pe_ix ix_list (pv 0) pe_int (fun _ _ => rfl)) (pe_callB call_len_seq (by rfl) T.b_len (by decide +kernel) (pa_cons (pe_ix ix_list (pv 0) pe_int (fun _ _ => rfl)) pa_nil))))
        (pss_one (ps_set (i := 2) sc__law_draw.nd rfl (.inl rfl) (pe_ix ix_list (pe_ix ix_list (pv 0) pe_int (fun _ _ => rfl)) (pv 3) (fun _ _ => rfl)))))
        pss_nil)
      (pss_cons (ps_if (pt_cmpR op_ge (pv 2) (pe_op op_pow pe_int pe_int) (nomark _))
        (pss_cons (ps_asg (pe_op op_fdivW (pv 2) (pv 1)) (pg_sub (pe_ix ix_list (pv 0) pe_int (fun _ _ => rfl)) (pv 3) set_list))
        (pss_one (ps_ret (pe_op op_mod (pv 2) (pv 1)))))
        pss_nil)
      (pss_one (ps_ret (pe_op op_mod (pe_op op_fdiv (pe_op op_mod (pe_op op_pow (pe_op op_add (pe_op op_add (pe_op op_mod (pv 2) pe_int) (pe_op op_mul pe_int (pe_ix ix_list (pv 0) pe_int (fun _ _ => rfl)))) pe_int) pe_int) pe_int) pe_int) (pv 1)))))))))), ?_⟩
    refine ⟨.ref d, rfl, d, _, 1, .int t, rfl, rfl, .inl (.inl hd), rfl, t, 1, rfl, rfl, .ref d, rfl, d, _, 1, 1, rfl, rfl, hd, rfl, ?_⟩
    have hd1 : (upd H d (.lst ([V.ref c, .int t].set 1 (.int (t + 1))))) d = some (.lst [.ref c, .int (t + 1)]) := upd_same
    have hc1 : (upd H d (.lst ([V.ref c, .int t].set 1 (.int (t + 1))))) c = some (.lst (cells.map V.int)) := by
      rw [upd_ne hne]; exact hc
    have k1 : Kept d c H (upd H d (.lst ([V.ref c, .int t].set 1 (.int (t + 1))))) := fun b o h n _ => by
      rw [upd_ne n]; exact h
    generalize upd H d (.lst ([V.ref c, .int t].set 1 (.int (t + 1)))) = H1 at hd1 hc1 k1 ⊢
    have D1 : Deck H1 d c (t + 1) := ⟨hd1, ⟨cells, hc1, hp, hl⟩, hne, by omega⟩
    refine ⟨1, rfl, .ref d, rfl, d, _, 0, .ref c, rfl, rfl, .inl (.inl hd1), rfl, c, _, rfl, .inl (.inl (.inl hc1)), _, 0, rfl, rfl, _, rfl, ite2 (fun e => ?_) (fun e => ?_)⟩
    · have e0 : (0 : Int) < ((cells.map V.int).length : Int) := of_decide_eq_true e
      rw [List.length_map] at e0
      have z0 : 0 ≤ (t + 1) % (cells.length : Int) := Int.emod_nonneg _ (by omega)
      have z1 : (t + 1) % (cells.length : Int) < (cells.length : Int) := Int.emod_lt_of_pos _ e0
      obtain ⟨x, hx, hx2, hx3⟩ := at_int z0 z1
      have x0 := hp x hx
      refine ⟨.ref d, rfl, d, _, 1, .int (t + 1), rfl, rfl, .inl (.inl hd1), rfl, .ref d, rfl, d, _, 0, .ref c, rfl, rfl, .inl (.inl hd1), rfl, c, _, rfl, .inl (.inl (.inl hc1)), t + 1, (cells.length : Int), rfl, by rw [List.length_map], e0, ?_⟩
      refine ⟨.ref d, rfl, d, _, 0, .ref c, rfl, rfl, .inl (.inl hd1), rfl, .int ((t + 1) % (cells.length : Int)), rfl, c, _, _, .int x, rfl, rfl, .inl (.inl hc1), hx3, ?_⟩
      refine ⟨.int x, rfl, 10, 18, rfl, rfl, ⟨by decide, by decide, by decide⟩, _, _, rfl, rfl, _, rfl, ite2 (fun e => ?_) (fun e => ?_)⟩
      · refine ⟨.int x, rfl, .int m, rfl, x, m, rfl, rfl, ⟨hm0, wide_m hm0 hm1⟩, .ref d, rfl, d, _, 0, .ref c, rfl, rfl, .inl (.inl hd1), rfl, .int ((t + 1) % (cells.length : Int)), rfl, c, _, _, _, rfl, rfl, hc1, ix_nat z0 (by rw [List.length_map]; exact z1), ?_⟩
        refine ⟨.int x, rfl, .int m, rfl, x, m, rfl, rfl, hm0, q _ _ (k1.trans fun b o h _ n => ?_) ⟨?_, ⟨cells.set ((t + 1) % (cells.length : Int)).toNat (x / m), ?_, fun y hy => ?_, ?_⟩, hne, by omega⟩ (Int.emod_nonneg _ (by omega)) (Int.emod_lt_of_pos _ hm0)⟩
        · rw [upd_ne n]; exact h
        · rw [upd_ne (Ne.symm hne)]; exact hd1
        · rw [upd_same, List.map_set]
        · rcases List.mem_or_eq_of_mem_set hy with h | h
          · exact hp y h
          · rw [h]; exact Int.ediv_nonneg x0 (by omega)
        · rw [List.length_set]; exact hl
      · refine ⟨.int x, rfl, x, 2147483587, rfl, rfl, (show (0 : Int) < 2147483587 by decide), .ref d, rfl, d, _, 1, .int (t + 1), rfl, rfl, .inl (.inl hd1), rfl, 7919, t + 1, rfl, rfl, .inl ⟨by decide, by decide⟩, _, _, rfl, rfl, _, 1, rfl, rfl, _, 5, rfl, rfl, ⟨by decide, by decide, ?_⟩, _, 2147483647, rfl, rfl, (show (0 : Int) < 2147483647 by decide), _, 7, rfl, rfl, ⟨by decide, by decide⟩, .int m, rfl, _, m, rfl, rfl, hm0, q _ _ k1 D1 (Int.emod_nonneg _ (by omega)) (Int.emod_lt_of_pos _ hm0)⟩
        have := Int.emod_lt_of_pos x (show (0 : Int) < 2147483587 by decide)
        have := Int.emod_nonneg x (show (2147483587 : Int) ≠ 0 by decide)
        omega
    · refine ⟨.int 0, rfl, 10, 18, rfl, rfl, ⟨by decide, by decide, by decide⟩, _, _, rfl, rfl, _, rfl, ite2 (fun e => absurd (of_decide_eq_true e) (by decide)) (fun e => ?_)⟩
      refine ⟨.int 0, rfl, 0, 2147483587, rfl, rfl, (show (0 : Int) < 2147483587 by decide), .ref d, rfl, d, _, 1, .int (t + 1), rfl, rfl, .inl (.inl hd1), rfl, 7919, t + 1, rfl, rfl, .inl ⟨by decide, by decide⟩, _, _, rfl, rfl, _, 1, rfl, rfl, _, 5, rfl, rfl, ⟨by decide, by decide, ?_⟩, _, 2147483647, rfl, rfl, (show (0 : Int) < 2147483647 by decide), _, 7, rfl, rfl, ⟨by decide, by decide⟩, .int m, rfl, _, m, rfl, rfl, hm0, q _ _ k1 D1 (Int.emod_nonneg _ (by omega)) (Int.emod_lt_of_pos _ hm0)⟩
      omega
def sp_prime : Sp := fun vs H Q _ => ∃ (d c : Addr) (t : Int), vs = [.ref d] ∧ Deck H d c t ∧ t < 1000000 ∧ ∀ H' p, Kept d c H H' → Deck H' d c (t + 1) → p ∈ PR8 → Q (.int p) H'
theorem ok__law_prime (T : Top K mg) : Ok P w K mg base 2 "_law_prime" ["_law_deck_here"] sp_prime := by
  have O__law_draw := ok__law_draw (P := P) (w := w) (base := base) T
  refine T.d__law_prime.ok sc__law_prime (fun vs H Q E h => ?_) (fun f cdv A outer s H vs Q E hr h => ?_)
  · obtain ⟨d, c, t, rfl, _⟩ := h
    rfl
  · obtain ⟨d, c, t, rfl, D0, ht, q⟩ := h
    refine ⟨_, ((pss_one (ps_ret (pe_ix ix_list (pe_lst (pa_cons pe_int (pa_cons pe_int (pa_cons pe_int (pa_cons pe_int (pa_cons pe_int (pa_cons pe_int (pa_cons pe_int (pa_cons pe_int pa_nil))))))))) (pe_callO O__law_draw (hr.mono (by omega)) (by rfl) (pa_cons (pv 0) (pa_cons pe_int pa_nil))) (fun _ _ => rfl))))), ?_⟩
    refine ⟨sz1000 (by decide : (8 : Nat) ≤ 1000), fun L nL => ?_⟩
    generalize h1 : upd H L _ = H1
    obtain ⟨s1, e1⟩ := new_of h1 nL
    refine ⟨.ref d, rfl, d, c, t, 8, rfl, D0.same s1, ht, by decide, by decide, fun H' r k' D' r0 r1 => ?_⟩
    have bL := D0.fresh nL
    have eL' : H' L = some (.lst (PR8.map V.int)) := k' _ _ e1 (fun z => bL (.inl z)) (fun z => bL (.inr z))
    obtain ⟨x, hx, _, hx3⟩ := at_int (xs := PR8) r0 r1
    exact ⟨L, _, r, .int x, rfl, rfl, .inl (.inl eL'), hx3, q H' x (fun b o h n1 n2 => k' b o (s1 b o h) n1 n2) D' hx⟩
def sp_row : Sp := fun vs H Q _ => ∃ (d c : Addr) (t p n : Int), vs = [.ref d, .int p, .int n] ∧ Deck H d c t ∧ t ≤ 990000 ∧ 2 ≤ p ∧ p ≤ 1000 ∧ 0 ≤ n ∧ n ≤ 100 ∧ ∀ H' a r t', Kept d c H H' → Deck H' d c t' → t' ≤ t + 2 * n → H a = none → H' a = some (.tup (r.map V.int)) → (r.length : Int) = n → RowOk p r → Q (.ref a) H'
theorem ok__law_row (T : Top K mg) : Ok P w K mg base 2 "_law_row" ["_law_deck_here", "_law_p", "_law_n"] sp_row := by
  have O__law_draw := ok__law_draw (P := P) (w := w) (base := base) T
  refine T.d__law_row.ok sc__law_row (fun vs H Q E h => ?_) (fun f cdv A outer s H vs Q E hr h => ?_)
  · obtain ⟨d, c, t, p, n, rfl, _⟩ := h
    rfl
  · obtain ⟨d, c, t, p, n, rfl, D0, ht, hp1, hp2, hn1, hn2, q⟩ := h
    refine ⟨_, ((pss_one (ps_ret (pe_callTy call_tuple_of (by rfl) T.b_tuple (by decide +kernel) (pa_cons (pe_lc (own := [("_law_place", 3)]) (g := gName 3) (by rfl) sc__law_row.nd (pi_range1 (by rfl) T.b_range (pa_cons (pv 2) pa_nil)) (blkOk_by (own := [("_law_place", 3)]) (N := N__law_row) (sc := defScope s__law_row) (by decide +kernel)) (fun _ _ _ _ _ => (pg_name (i := 3) sc__law_row.nd rfl (.inl rfl))) (fun _ _ _ _ _ => pts_nil) (fun _ _ _ _ _ => (pe_ix (show IxR _ (rIxL K) from ix_list) (pe_lst (pa_cons pe_int (pa_cons pe_int (pa_cons (pe_op op_sub (pv 1) pe_int) (pa_cons (pe_callO O__law_draw (hr.mono (by omega)) (by rfl) (pa_cons (pv 0) (pa_cons (pv 1) pa_nil))) pa_nil))))) (pe_callO O__law_draw (hr.mono (by omega)) (by rfl) (pa_cons (pv 0) (pa_cons pe_int pa_nil))) (fun _ _ => rfl)))) pa_nil))))), ?_⟩
    refine ⟨.int n, rfl, n, rfl, by omega, by omega, fun B nB => ?_⟩
    have bB := D0.fresh nB
    refine lc_range (lo := 0) (n := n.toNat) (fun i H' => Kept d c H H' ∧ ∃ (t' : Int) (r : List Int), Deck H' d c t' ∧ t' ≤ t + 2 * i ∧ H' B = some (.lst (r.map V.int)) ∧ r.length = i ∧ RowOk p r) ⟨Kept.of (same_upd nB), t, [], D0.same (same_upd nB), by omega, upd_same, rfl, fun x hx => nomatch hx⟩ (fun i H' hi hW => ?_) (fun H' hW => ?_)
    · obtain ⟨k', t', r, D', ht', eB, ln, ro⟩ := hW
      refine ⟨rfl, .int p, rfl, p, 1, rfl, rfl, .ref d, rfl, .int p, rfl, d, c, t', p, rfl, D', by omega, by omega, by omega, fun H1 z1 k1 D1 z10 z11 => ?_⟩
      refine ⟨sz1000 (by decide : (4 : Nat) ≤ 1000), fun L nL => ?_⟩
      generalize h2 : upd H1 L _ = H2
      obtain ⟨s2, e2⟩ := new_of h2 nL
      have D2 := D1.same s2
      have bL := D1.fresh nL
      refine ⟨.ref d, rfl, d, c, t' + 1, 4, rfl, D2, by omega, by decide, by decide, fun H3 z2 k3 D3 z20 z21 => ?_⟩
      have eL : H3 L = some (.lst ([0, 1, p - 1, z1].map V.int)) := k3 _ _ e2 (fun z => bL (.inl z)) (fun z => bL (.inr z))
      obtain ⟨x, hx, _, hx3⟩ := at_int (xs := [0, 1, p - 1, z1]) z20 z21
      have eB3 : H3 B = some (.lst (r.map V.int)) := k3 _ _ (s2 _ _ (k1 _ _ eB (fun z => bB (.inl z)) (fun z => bB (.inr z)))) (fun z => bB (.inl z)) (fun z => bB (.inr z))
      have kk : Kept d c H H3 := fun b o h n1 n2 => k3 b o (s2 b o (k1 b o (k' b o h n1 n2) n1 n2)) n1 n2
      refine ⟨L, _, z2, .int x, rfl, rfl, .inl (.inl eL), hx3, r.map V.int, eB3, by rw [List.length_map]; exact small1000 (by omega), fun b o h n1 n2 => ?_, t' + 1 + 1, r ++ [x], ?_, by omega, ?_, by rw [List.length_append, ln]; rfl, fun y hy => ?_⟩
      · rw [upd_ne (ne_of_none h nB)]
        exact kk b o h n1 n2
      · obtain ⟨hd, ⟨cells, h1, h2⟩, n, t0⟩ := D3
        exact ⟨by rw [upd_ne (fun z => bB (.inl z.symm))]; exact hd, ⟨cells, by rw [upd_ne (fun z => bB (.inr z.symm))]; exact h1, h2⟩, n, t0⟩
      · rw [upd_same, List.map_append]
        rfl
      · rcases List.mem_append.mp hy with h | h
        · exact ro y h
        · have : y = x := by simpa using h
          subst this
          simp only [List.mem_cons, List.not_mem_nil, or_false] at hx
          omega
    · obtain ⟨k', t', r, D', ht', eB, ln, ro⟩ := hW
      refine ⟨B, _, rfl, .inl ⟨.inl (.inl eB), fun l nl => ?_⟩⟩
      generalize h2 : upd H' l _ = H2
      obtain ⟨s2, e2⟩ := new_of h2 nl
      refine q H2 l r t' (fun b o h n1 n2 => s2 b o (k' b o h n1 n2)) (D'.same s2) (by omega) ?_ e2 (by omega) ro
      cases hl : H l with
      | none => rfl
      | some o =>
        have bl := D'.fresh nl
        rw [k' l o hl (fun z => bl (.inl z)) (fun z => bl (.inr z))] at nl
        cases nl
def sp_plus (K : PySem.W.Frag) : Sp := fun vs H Q _ => ∃ (a b : Addr) (x y : List Int) (p m : Int), vs = [.int p, .ref a, .ref b, .int m] ∧ SqT K H a (x.map V.int) ∧ SqT K H b (y.map V.int) ∧ x.length ≤ 1000 ∧ 0 < p ∧ -1000000 ≤ m ∧ m ≤ 1000000 ∧
  ∀ H' l, Same H H' → H l = none → H' l = some (.tup ((plusR p x y m).map V.int)) → Q (.ref l) H'
theorem ok__law_plus (T : Top K mg) : Ok P w K mg base 1 "_law_plus" ["_law_p", "_law_one", "_law_other", "_law_many"] (sp_plus K) := by
  refine T.d__law_plus.ok sc__law_plus (fun vs H Q E h => ?_) (fun f cdv A outer s H vs Q E hr h => ?_)
  · obtain ⟨a, b, x, y, p, m, rfl, _⟩ := h
    rfl
  · obtain ⟨a, b, x, y, p, m, rfl, hA, hB, hz, hp, hm1, hm2, q⟩ := h
    refine ⟨_, ((pss_one (ps_ret (pe_callTy call_tuple_of (by rfl) T.b_tuple (by decide +kernel) (pa_cons (pe_lc (own := [("_law_left", 4), ("_law_right", 5)]) (g := gTup K 2 (gCons (gName 4) (gCons (gName 5) gNil))) (by rfl) sc__law_plus.nd (RZ.pi_zipA (by rfl) T.b_zip (pa_cons (pv 1) (pa_cons (pv 2) pa_nil))) (blkOk_by (own := [("_law_left", 4), ("_law_right", 5)]) (N := N__law_plus) (sc := defScope s__law_plus) (by decide +kernel)) (fun _ _ _ _ _ => (pg_tup (by rfl) (pgs_cons (pg_name (i := 4) sc__law_plus.nd rfl (.inl rfl)) (pgs_cons (pg_name (i := 5) sc__law_plus.nd rfl (.inl rfl)) pgs_nil)))) (fun _ _ _ _ _ => pts_nil) (fun _ _ _ _ _ => (pe_op op_mod (pe_op op_add (pv 4) (pe_op op_mul (pv 3) (pv 5))) (pv 0)))) pa_nil))))), ?_⟩
    refine ⟨.ref a, rfl, .ref b, rfl, a, b, _, _, rfl, .inr ⟨hA, hB, lc_zipI (fun u v => (u + m * v) % p) hA hB hz (fun _ _ => rfl) (fun u v H' Q' _ _ _ hQ => ?_) (fun D H' sm nD eD => ?_)⟩⟩
    · exact ⟨.int u, rfl, .int m, rfl, .int v, rfl, m, v, rfl, rfl, .inl ⟨by omega, by omega⟩, _, _, rfl, rfl, .int p, rfl, _, p, rfl, rfl, hp, hQ⟩
    · refine ⟨D, _, rfl, .inl ⟨.inl (.inl eD), fun l nl => ?_⟩⟩
      exact q _ l (sm.trans (same_upd nl)) (sm.free nl) upd_same
def sp_mixed (K : PySem.W.Frag) : Sp := fun vs H Q _ => ∃ (d c o : Addr) (t p n : Int) (ws : List V) (rs : List (List Int)), vs = [.ref d, .int p, .int n, .ref o] ∧ Deck H d c t ∧ t ≤ 990000 ∧ 2 ≤ p ∧ p ≤ 1000 ∧ 1 ≤ n ∧ n ≤ 100 ∧ ((H o = some (.lst ws) ∧ ¬ Bad d c o) ∨ SqT K H o ws) ∧ DpAll K H ws (rs.map rowD) ∧ rs.length ≤ 100 ∧ (∀ r ∈ rs, (r.length : Int) = n) ∧
  ∀ H' a r t', Kept d c H H' → Deck H' d c t' → t' ≤ t + rs.length → SqT K H' a (r.map V.int) → (r.length : Int) = n → RowOk p r → Q (.ref a) H'
theorem ok__law_mixed (T : Top K mg) : Ok P w K mg base 2 "_law_mixed" ["_law_deck_here", "_law_p", "_law_n", "_law_rows_here"] (sp_mixed K) := by
  have O__law_draw := ok__law_draw (P := P) (w := w) (base := base) T
  have O__law_plus := ok__law_plus (P := P) (w := w) (base := base) T
  refine T.d__law_mixed.ok sc__law_mixed (fun vs H Q E h => ?_) (fun f cdv A outer s H vs Q E hr h => ?_)
  · obtain ⟨d, c, o, t, p, n, ws, rs, rfl, _⟩ := h
    rfl
  · obtain ⟨d, c, o, t, p, n, ws, rs, rfl, D0, ht, hp1, hp2, hn1, hn2, hq, hR, hl, hln, q⟩ := h
    refine ⟨_, ((pss_cons (ps_set (i := 4) sc__law_mixed.nd rfl (.inl rfl) (pe_op op_repB (pe_tup (pa_cons pe_int pa_nil)) (pv 2)))
      (pss_cons (ps_for PassesOwn.never (by rfl) (pi_seqv 3 (pv 3)) (pg_name (i := 5) sc__law_mixed.nd rfl (.inl rfl))
        (pss_one (ps_set (i := 4) sc__law_mixed.nd rfl (.inl rfl) (pe_callO O__law_plus (hr.mono (by omega)) (by rfl) (pa_cons (pv 1) (pa_cons (pv 4) (pa_cons (pv 5) (pa_cons (pe_callO O__law_draw (hr.mono (by omega)) (by rfl) (pa_cons (pv 0) (pa_cons (pv 1) pa_nil))) pa_nil))))))))
      (pss_one (ps_ret (pv 4)))))), ?_⟩
    refine ⟨sz1000 (by decide : (1 : Nat) ≤ 1000), fun z nz => ?_⟩
    generalize h1 : upd H z _ = H1
    obtain ⟨s1, e1⟩ := new_of h1 nz
    have e1 : H1 z = some (.tup ([0].map V.int)) := e1
    have lw : ws.length = rs.length := by
      have := dpAll_len hR
      rw [List.length_map] at this
      exact this
    refine ⟨.int n, rfl, z, n, _, rfl, rfl, .inl (.inl e1), List.cons_ne_nil _ _, hn1, by omega, by decide, fun y H2 s2 hy => ?_⟩
    have hy : SqT K H2 y ((List.replicate n.toNat (0 : Int)).map V.int) := (rep_int n.toNat 0) ▸ hy
    have D2 := D0.same (s1.trans s2)
    have hR2 := dpAll_same (s1.trans s2) _ _ hR
    have hq2 : (∀ H', Kept d c H2 H' → SqL K H' o ws) ∨ (∀ H', Kept d c H2 H' → SqT K H' o ws) := by
      rcases hq with ⟨eo, bo⟩ | hT
      · exact .inl fun H' k => .inl (.inl (k _ _ (s2 _ _ (s1 _ _ eo)) (fun z => bo (.inl z)) (fun z => bo (.inr z))))
      · exact .inr fun H' k => Kept.tup D2 k (Same.tup (s1.trans s2) hT)
    refine ⟨o, ws, fun H' => Kept d c H2 H', rfl, Kept.refl _ _ _, hq2, fun J wk => for_it wk (fun i σ H' => Kept d c H2 H' ∧ ∃ (t' : Int) (y : Addr) (r : List Int) (y5 : Option V), Deck H' d c t' ∧ t' ≤ t + i ∧ SqT K H' y (r.map V.int) ∧ (r.length : Int) = n ∧ RowOk p r ∧ σ = [some (.ref d), some (.int p), some (.int n), some (.ref o), some (.ref y), y5]) ⟨Kept.refl _ _ _, t, y, _, none, D2, by omega, hy, by rw [List.length_replicate]; omega, fun x hx => ?_, rfl⟩ (fun i σ H' _ hW => hW.1) (fun i x σ H' H'' hi hW hY => ?_) (fun σ H' hW => ?_)⟩
    · have := List.eq_of_mem_replicate hx
      omega
    · obtain ⟨rfl, hx⟩ := hY
      obtain ⟨k', t', y1, r, y5, D', ht', hy1, hr1, ro, rfl⟩ := hW
      obtain ⟨b, r2, rfl, g2, m2, hb⟩ := dpAll_row hR2 hx
      have hb' := Kept.tup D2 k' hb
      refine ⟨.int p, rfl, .ref y1, rfl, .ref b, rfl, .ref d, rfl, .int p, rfl, d, c, t', p, rfl, D', by omega, by omega, by omega, fun H3 m k3 D3 m0 m1 => ?_⟩
      refine ⟨y1, b, r, r2, p, m, rfl, Kept.tup D' k3 hy1, Kept.tup D' k3 hb', by omega, by omega, by omega, by omega, fun H4 l s4 nl e4 => ?_⟩
      have e : r.length = r2.length := by
        have := hln r2 m2
        omega
      exact ⟨fun b o h n1 n2 => s4 b o (k3 b o (k' b o h n1 n2) n1 n2), t' + 1, l, plusR p r r2 m, _, D3.same s4, by omega, .inl (.inl e4), by rw [plus_len e]; exact hr1, plus_ok (by omega), rfl⟩
    · obtain ⟨k', t', y1, r, y5, D', ht', hy1, hr1, ro, rfl⟩ := hW
      exact ⟨.ref y1, rfl, q H' y1 r t' (fun b o h n1 n2 => k' b o (s2 b o (s1 b o h)) n1 n2) D' (by omega) hy1 hr1 ro⟩
def sp_rows (K : PySem.W.Frag) : Sp := fun vs H Q _ => ∃ (d c : Addr) (t p n u : Int), vs = [.ref d, .int p, .int n, .int u] ∧ Deck H d c t ∧ t ≤ 900000 ∧ 2 ≤ p ∧ p ≤ 1000 ∧ 1 ≤ n ∧ n ≤ 10 ∧ 0 ≤ u ∧ u ≤ 20 ∧
  ∀ (H' : Hp) (a : Addr) (ws : List V) (rs : List (List Int)) (t' : Int), Kept d c H H' → Deck H' d c t' → t' ≤ t + 1000 → H' a = some (.tup ws) → DpAll K H' ws (rs.map rowD) → (rs.length : Int) ≤ u → (∀ r ∈ rs, (r.length : Int) = n ∧ RowOk p r) → Q (.ref a) H'
theorem ok__law_rows (T : Top K mg) : Ok P w K mg base 3 "_law_rows" ["_law_deck_here", "_law_p", "_law_n", "_law_upto"] (sp_rows K) := by
  have O__law_draw := ok__law_draw (P := P) (w := w) (base := base) T
  have O__law_row := ok__law_row (P := P) (w := w) (base := base) T
  have O__law_mixed := ok__law_mixed (P := P) (w := w) (base := base) T
  refine T.d__law_rows.ok sc__law_rows (fun vs H Q E h => ?_) (fun f cdv A outer s H vs Q E hr h => ?_)
  · obtain ⟨d, c, t, p, n, u, rfl, _⟩ := h
    rfl
  · obtain ⟨d, c, t, p, n, u, rfl, D0, ht, hp1, hp2, hn1, hn2, hu1, hu2, q⟩ := h
    refine ⟨_, ((pss_cons (ps_set (i := 4) sc__law_rows.nd rfl (.inl rfl) (pe_lst pa_nil))
      (pss_cons (ps_for PassesOwn.never (by rfl) (pi_range1 (by rfl) T.b_range (pa_cons (pe_callO O__law_draw (hr.mono (by omega)) (by rfl) (pa_cons (pv 0) (pa_cons (pe_op op_add (pv 3) pe_int) pa_nil))) pa_nil)) (pg_name (i := 5) sc__law_rows.nd rfl (.inl rfl))
        (pss_cons (ps_set (i := 6) sc__law_rows.nd rfl (.inl rfl) (pe_callO O__law_draw (hr.mono (by omega)) (by rfl) (pa_cons (pv 0) (pa_cons pe_int pa_nil))))
        (pss_one (ps_if (PW.pt (pw_and (pt_cmpR op_eq (pv 6) pe_int (nomark _)) (pw_and1 (pt_cmpR (op_neD hr.units) (pv 4) (pe_lst pa_nil) (nomark _)))))
          (pss_one (ps_expr (pe_bm PySem.F.plainAttrs_list PySem.F.slot_list_append PySem.F.type_list_append mt_append (pv 4) (pa_cons (pe_ix ix_list (pv 4) (pe_callO O__law_draw (hr.mono (by omega)) (by rfl) (pa_cons (pv 0) (pa_cons (pe_callB call_len_seq (by rfl) T.b_len (by decide +kernel) (pa_cons (pv 4) pa_nil)) pa_nil))) (fun _ _ => rfl)) pa_nil))))
          (pss_one (ps_if (pt_cmpR op_eq (pv 6) pe_int (nomark _))
            (pss_one (ps_expr (pe_bm PySem.F.plainAttrs_list PySem.F.slot_list_append PySem.F.type_list_append mt_append (pv 4) (pa_cons (pe_callO O__law_mixed (hr.mono (by omega)) (by rfl) (pa_cons (pv 0) (pa_cons (pv 1) (pa_cons (pv 2) (pa_cons (pv 4) pa_nil))))) pa_nil))))
            (pss_one (ps_expr (pe_bm PySem.F.plainAttrs_list PySem.F.slot_list_append PySem.F.type_list_append mt_append (pv 4) (pa_cons (pe_callO O__law_row (hr.mono (by omega)) (by rfl) (pa_cons (pv 0) (pa_cons (pv 1) (pa_cons (pv 2) pa_nil)))) pa_nil))))))))))
      (pss_one (ps_ret (pe_callTy call_tuple_of (by rfl) T.b_tuple (by decide +kernel) (pa_cons (pv 4) pa_nil))))))), ?_⟩
    refine ⟨Nat.zero_le _, fun o no => ?_⟩
    generalize h1 : upd H o _ = H1
    obtain ⟨s1, e1⟩ := new_of h1 no
    have bo := D0.fresh no
    have D1 := D0.same s1
    refine ⟨.ref d, rfl, .int u, rfl, u, 1, rfl, rfl, d, c, t, u + 1, rfl, D1, by omega, by omega, by omega, fun H2 z k2 D2 z0 z1 => ?_⟩
    have e2 := k2 _ _ e1 (fun z => bo (.inl z)) (fun z => bo (.inr z))
    refine ⟨z, rfl, by omega, by omega, for_range (lo := 0) (n := z.toNat) (fun i σ H' => Kept d c H H' ∧ ∃ (t' : Int) (ws : List V) (rs : List (List Int)) (y5 y6 : Option V), Deck H' d c t' ∧ t' ≤ t + 1 + 21 * i ∧ H' o = some (.lst ws) ∧ DpAll K H' ws (rs.map rowD) ∧ rs.length = i ∧ (∀ r ∈ rs, (r.length : Int) = n ∧ RowOk p r) ∧ σ = [some (.ref d), some (.int p), some (.int n), some (.int u), some (.ref o), y5, y6]) ⟨fun b o h n1 n2 => k2 b o (s1 b o h) n1 n2, t + 1, [], [], none, none, D2, by omega, e2, .nil, rfl, fun r hr => (nomatch hr), rfl⟩ (fun i σ H' hi hW => ?_) (fun σ H' hW => ?_)⟩
    · obtain ⟨k', t', ws, rs, y5, y6, D', ht', eo, hR, ln, hro, rfl⟩ := hW
      have lw : ws.length = rs.length := by
        have := dpAll_len hR
        rw [List.length_map] at this
        exact this
      -- one row more
      have next : ∀ (H4 : Hp) (t4 : Int) (v : V) (r : List Int) (y5 y6 : Option V), Kept d c H' H4 → Deck H4 d c t4 → t4 ≤ t' + 21 → Dp K H4 v (rowD r) → (r.length : Int) = n → RowOk p r →
          (H4 o = some (.lst ws) ∧ ws.length < sizeLine ∧ (fun (σ : L2.St) (H' : Hp) => Kept d c H H' ∧ ∃ (t' : Int) (ws : List V) (rs : List (List Int)) (y5 y6 : Option V), Deck H' d c t' ∧ t' ≤ t + 1 + 21 * ((i + 1 : Nat) : Int) ∧ H' o = some (.lst ws) ∧ DpAll K H' ws (rs.map rowD) ∧ rs.length = i + 1 ∧ (∀ r ∈ rs, (r.length : Int) = n ∧ RowOk p r) ∧ σ = [some (.ref d), some (.int p), some (.int n), some (.int u), some (.ref o), y5, y6]) [some (.ref d), some (.int p), some (.int n), some (.int u), some (.ref o), y5, y6] (upd H4 o (.lst (ws ++ [v])))) := by
        intro H4 t4 v r y5 y6 k4 D4 h4 hv hr1 hr2
        have eo4 := k4 _ _ eo (fun z => bo (.inl z)) (fun z => bo (.inr z))
        have tk : Tk H' (upd H4 o (.lst (ws ++ [v]))) := (Tk.kept D' k4).mut eo4
        have tk2 : Tk H4 (upd H4 o (.lst (ws ++ [v]))) := (Tk.refl H4).mut eo4
        refine ⟨eo4, by rw [lw]; exact small1000 (by omega), fun b x h n1 n2 => ?_, t4, ws ++ [v], rs ++ [r], y5, y6, ?_, by omega, upd_same, ?_, by rw [List.length_append, ln]; rfl, fun r' h' => ?_, rfl⟩
        · rw [upd_ne (ne_of_none h no)]
          exact k4 b x (k' b x h n1 n2) n1 n2
        · obtain ⟨hd, ⟨cells, h1, h2⟩, n, t0⟩ := D4
          exact ⟨by rw [upd_ne (fun z => bo (.inl z.symm))]; exact hd, ⟨cells, by rw [upd_ne (fun z => bo (.inr z.symm))]; exact h1, h2⟩, n, t0⟩
        · rw [List.map_append]
          exact dpAll_append (dpAll_tk tk _ _ (noL_rows rs) hR) (.cons (dp_tk tk2 _ _ (noL_row r) hv) .nil)
        · rcases List.mem_append.mp h' with h | h
          · exact hro r' h
          · have : r' = r := by simpa using h
            subst this
            exact ⟨hr1, hr2⟩
      refine ⟨.ref d, rfl, d, c, t', 6, rfl, D', by omega, by decide, by decide, fun H3 w3 k3 D3 w0 w1 => ?_⟩
      have eo3 := k3 _ _ eo (fun z => bo (.inl z)) (fun z => bo (.inr z))
      have hR3 := dpAll_tk (Tk.kept D' k3) _ _ (noL_rows rs) hR
      -- what the other two ways do
      have mix : ∀ (X : Prop), X → X := fun _ h => h
      refine ⟨.int w3, rfl, rfl, _, rfl, ite2 (fun e => ?_) (fun e => ?_)⟩
      · refine ⟨.ref o, rfl, Nat.zero_le _, fun l nl => ?_⟩
        generalize h4 : upd H3 l _ = H4
        obtain ⟨s4, e4⟩ := new_of h4 nl
        have D4 := D3.same s4
        have k4 : Kept d c H' H4 := fun b x h n1 n2 => s4 b x (k3 b x h n1 n2)
        have eo4 := s4 _ _ eo3
        have hR4 := dpAll_same s4 _ _ hR3
        refine ⟨.list (rs.map rowD), .list [], .lst (.inl (.inl eo4)) hR4, .lst (.inl (.inl e4)) .nil, shaped_lrows rs, shaped_lrows [], _, rfl, ?_⟩
        rw [eqv_nil]
        by_cases hne : rs.map rowD = []
        · rw [decide_eq_true hne]
          have ew : w3 = 0 := V.int.inj (of_decide_eq_true e)
          subst ew
          refine iteF ⟨.int 0, rfl, rfl, _, rfl, iteF ?_⟩
          refine ⟨.ref o, rfl, .inl ⟨rfl, _, .inl (.inl eo4)⟩, .ref d, rfl, .int p, rfl, .int n, rfl, d, c, t' + 1, p, n, rfl, D4, by omega, hp1, hp2, by omega, by omega, fun H5 a r t5 k5 D5 h5 na ea hr1 hr2 => ?_⟩
          obtain ⟨g1, g2, g3⟩ := next H5 t5 (.ref a) r _ _ (k4.trans k5) D5 (by omega) (row_dp (.inl (.inl ea))) hr1 hr2
          exact ⟨o, _, _, rfl, rfl, g1, g2, g3⟩
        · rw [decide_eq_false hne]
          have pos : 0 < ws.length := by
            rw [lw]
            cases rs with
            | nil => exact absurd rfl hne
            | cons a b => exact Nat.succ_pos _
          refine iteT ⟨.ref o, rfl, .inl ⟨rfl, _, .inl (.inl eo4)⟩, .ref o, rfl, .ref d, rfl, .ref o, rfl, o, ws, rfl, .inl (.inl (.inl eo4)), d, c, t' + 1, _, rfl, D4, by omega, by omega, by omega, fun H5 j k5 D5 j0 j1 => ?_⟩
          have eo5 := k5 _ _ eo4 (fun z => bo (.inl z)) (fun z => bo (.inr z))
          have hj : j.toNat < ws.length := by omega
          have gv : ws[j.toNat]? = some ws[j.toNat] := List.getElem?_eq_getElem hj
          obtain ⟨b, r, eb, gr, mr, hb⟩ := dpAll_row hR4 gv
          have hb5 := Kept.tup D4 k5 hb
          have hdp : Dp K H5 ws[j.toNat] (rowD r) := by
            rw [eb]
            exact row_dp hb5
          obtain ⟨g1, g2, g3⟩ := next H5 (t' + 1 + 1) ws[j.toNat] r _ _ (k4.trans k5) D5 (by omega) hdp (hro r mr).1 (hro r mr).2
          exact ⟨o, _, j, _, rfl, rfl, .inl (.inl eo5), at_of (j := j.toNat) (by omega) gv, o, _, _, rfl, rfl, g1, g2, g3⟩
      · refine ⟨.int w3, rfl, rfl, _, rfl, ite2 (fun e2 => ?_) (fun e2 => ?_)⟩
        · refine ⟨.ref o, rfl, .inl ⟨rfl, _, .inl (.inl eo3)⟩, .ref d, rfl, .int p, rfl, .int n, rfl, .ref o, rfl, d, c, o, t' + 1, p, n, ws, rs, rfl, D3, by omega, hp1, hp2, hn1, by omega, .inl ⟨eo3, bo⟩, hR3, by omega, fun r h => (hro r h).1, fun H5 a r t5 k5 D5 h5 ea hr1 hr2 => ?_⟩
          obtain ⟨g1, g2, g3⟩ := next H5 t5 (.ref a) r _ _ (k3.trans k5) D5 (by omega) (row_dp ea) hr1 hr2
          exact ⟨o, _, _, rfl, rfl, g1, g2, g3⟩
        · refine ⟨.ref o, rfl, .inl ⟨rfl, _, .inl (.inl eo3)⟩, .ref d, rfl, .int p, rfl, .int n, rfl, d, c, t' + 1, p, n, rfl, D3, by omega, hp1, hp2, by omega, by omega, fun H5 a r t5 k5 D5 h5 na ea hr1 hr2 => ?_⟩
          obtain ⟨g1, g2, g3⟩ := next H5 t5 (.ref a) r _ _ (k3.trans k5) D5 (by omega) (row_dp (.inl (.inl ea))) hr1 hr2
          exact ⟨o, _, _, rfl, rfl, g1, g2, g3⟩
    · obtain ⟨k', t', ws, rs, y5, y6, D', ht', eo, hR, ln, hro, rfl⟩ := hW
      refine ⟨.ref o, rfl, o, _, rfl, .inl ⟨.inl (.inl eo), fun l nl => ?_⟩⟩
      generalize h2 : upd H' l _ = H2
      obtain ⟨s2, e2⟩ := new_of h2 nl
      exact q H2 l ws rs t' (fun b o h n1 n2 => s2 b o (k' b o h n1 n2)) (D'.same s2) (by omega) e2 (dpAll_same s2 _ _ hR) (by omega) hro
/-- what is mixed is made -/
def sp_mixed2 (K : PySem.W.Frag) : Sp := fun vs H Q _ => ∃ (d c o : Addr) (t p n : Int) (ws : List V) (rs : List (List Int)), vs = [.ref d, .int p, .int n, .ref o] ∧ Deck H d c t ∧ t ≤ 990000 ∧ 2 ≤ p ∧ p ≤ 1000 ∧ 1 ≤ n ∧ n ≤ 100 ∧ ((H o = some (.lst ws) ∧ ¬ Bad d c o) ∨ SqT K H o ws) ∧ DpAll K H ws (rs.map rowD) ∧ rs.length ≤ 100 ∧ (∀ r ∈ rs, (r.length : Int) = n) ∧
  ∀ H' a r t', Kept d c H H' → Deck H' d c t' → t' ≤ t + rs.length → SqT K H' a (r.map V.int) → (r.length : Int) = n → RowOk p r → InR p rs r → Q (.ref a) H'
theorem ok_mixed2 (T : Top K mg) : Ok P w K mg base 2 "_law_mixed" ["_law_deck_here", "_law_p", "_law_n", "_law_rows_here"] (sp_mixed2 K) := by
  have O__law_draw := ok__law_draw (P := P) (w := w) (base := base) T
  have O__law_plus := ok__law_plus (P := P) (w := w) (base := base) T
  refine T.d__law_mixed.ok sc__law_mixed (fun vs H Q E h => ?_) (fun f cdv A outer s H vs Q E hr h => ?_)
  · obtain ⟨d, c, o, t, p, n, ws, rs, rfl, _⟩ := h
    rfl
  · obtain ⟨d, c, o, t, p, n, ws, rs, rfl, D0, ht, hp1, hp2, hn1, hn2, hq, hR, hl, hln, q⟩ := h
    refine ⟨_, ((pss_cons (ps_set (i := 4) sc__law_mixed.nd rfl (.inl rfl) (pe_op op_repB (pe_tup (pa_cons pe_int pa_nil)) (pv 2)))
      (pss_cons (ps_for PassesOwn.never (by rfl) (pi_seqv 3 (pv 3)) (pg_name (i := 5) sc__law_mixed.nd rfl (.inl rfl))
        (pss_one (ps_set (i := 4) sc__law_mixed.nd rfl (.inl rfl) (pe_callO O__law_plus (hr.mono (by omega)) (by rfl) (pa_cons (pv 1) (pa_cons (pv 4) (pa_cons (pv 5) (pa_cons (pe_callO O__law_draw (hr.mono (by omega)) (by rfl) (pa_cons (pv 0) (pa_cons (pv 1) pa_nil))) pa_nil))))))))
      (pss_one (ps_ret (pv 4)))))), ?_⟩
    refine ⟨sz1000 (by decide : (1 : Nat) ≤ 1000), fun z nz => ?_⟩
    generalize h1 : upd H z _ = H1
    obtain ⟨s1, e1⟩ := new_of h1 nz
    have e1 : H1 z = some (.tup ([0].map V.int)) := e1
    have lw := rows_len hR
    refine ⟨.int n, rfl, z, n, _, rfl, rfl, .inl (.inl e1), List.cons_ne_nil _ _, hn1, by omega, by decide, fun y H2 s2 hy => ?_⟩
    have hy : SqT K H2 y ((List.replicate n.toNat (0 : Int)).map V.int) := (rep_int n.toNat 0) ▸ hy
    have D2 := D0.same (s1.trans s2)
    have hR2 := dpAll_same (s1.trans s2) _ _ hR
    have hq2 : (∀ H', Kept d c H2 H' → SqL K H' o ws) ∨ (∀ H', Kept d c H2 H' → SqT K H' o ws) := by
      rcases hq with ⟨eo, bo⟩ | hT
      · exact .inl fun H' k => .inl (.inl (k _ _ (s2 _ _ (s1 _ _ eo)) (fun z => bo (.inl z)) (fun z => bo (.inr z))))
      · exact .inr fun H' k => Kept.tup D2 k (Same.tup (s1.trans s2) hT)
    refine ⟨o, ws, fun H' => Kept d c H2 H', rfl, Kept.refl _ _ _, hq2, fun J wk => for_it wk (fun i σ H' => Kept d c H2 H' ∧ ∃ (t' : Int) (y : Addr) (r : List Int) (y5 : Option V), Deck H' d c t' ∧ t' ≤ t + i ∧ SqT K H' y (r.map V.int) ∧ (r.length : Int) = n ∧ RowOk p r ∧ InR p rs r ∧ σ = [some (.ref d), some (.int p), some (.int n), some (.ref o), some (.ref y), y5]) ⟨Kept.refl _ _ _, t, y, _, none, D2, by omega, hy, by rw [List.length_replicate]; omega, fun x hx => ?_, InR.noughts _ _ _, rfl⟩ (fun i σ H' _ hW => hW.1) (fun i x σ H' H'' hi hW hY => ?_) (fun σ H' hW => ?_)⟩
    · have := List.eq_of_mem_replicate hx
      omega
    · obtain ⟨rfl, hx⟩ := hY
      obtain ⟨k', t', y1, r, y5, D', ht', hy1, hr1, ro, inr, rfl⟩ := hW
      obtain ⟨b, r2, rfl, g2, m2, hb⟩ := dpAll_row hR2 hx
      have hb' := Kept.tup D2 k' hb
      refine ⟨.int p, rfl, .ref y1, rfl, .ref b, rfl, .ref d, rfl, .int p, rfl, d, c, t', p, rfl, D', by omega, by omega, by omega, fun H3 m k3 D3 m0 m1 => ?_⟩
      refine ⟨y1, b, r, r2, p, m, rfl, Kept.tup D' k3 hy1, Kept.tup D' k3 hb', by omega, by omega, by omega, by omega, fun H4 l s4 nl e4 => ?_⟩
      have e : r.length = r2.length := by
        have := hln r2 m2
        omega
      exact ⟨fun b o h n1 n2 => s4 b o (k3 b o (k' b o h n1 n2) n1 n2), t' + 1, l, plusR p r r2 m, _, D3.same s4, by omega, .inl (.inl e4), by rw [plus_len e]; exact hr1, plus_ok (by omega), InR.plus m e inr (InR.mem m2), rfl⟩
    · obtain ⟨k', t', y1, r, y5, D', ht', hy1, hr1, ro, inr, rfl⟩ := hW
      exact ⟨.ref y1, rfl, q H' y1 r t' (fun b o h n1 n2 => k' b o (s2 b o (s1 b o h)) n1 n2) D' (by omega) hy1 hr1 ro inr⟩
def sp_turned (K : PySem.W.Frag) : Sp := fun vs H Q _ => ∃ (d c a : Addr) (t : Int) (ws : List V), vs = [.ref d, .ref a] ∧ Deck H d c t ∧ t ≤ 990000 ∧ SqT K H a ws ∧ ws.length ≤ 100 ∧
  ∀ H' l ys t', Kept d c H H' → Deck H' d c t' → t' ≤ t + ws.length → H' l = some (.tup ys) → ys.Perm ws → Q (.ref l) H'
theorem ok__law_turned (T : Top K mg) : Ok P w K mg base 2 "_law_turned" ["_law_deck_here", "_law_things"] (sp_turned K) := by
  have O__law_draw := ok__law_draw (P := P) (w := w) (base := base) T
  refine T.d__law_turned.ok sc__law_turned (fun vs H Q E h => ?_) (fun f cdv A outer s H vs Q E hr h => ?_)
  · obtain ⟨d, c, a, t, ws, rfl, _⟩ := h
    rfl
  · obtain ⟨d, c, a, t, ws, rfl, D0, ht, hA, hl, q⟩ := h
    refine ⟨_, ((pss_cons (ps_set (i := 2) sc__law_turned.nd rfl (.inr rfl) (pe_callTy call_list_of (by rfl) T.b_list (by decide +kernel) (pa_cons (pv 1) pa_nil)))
      (pss_one (ps_ret (pe_callTy call_tuple_of (by rfl) T.b_tuple (by decide +kernel) (pa_cons (pe_lc (own := [("_law_thing", 3)]) (g := gName 3) (by rfl) sc__law_turned.nd (pi_tup (pv 1)) (blkOk_by (own := [("_law_thing", 3)]) (N := N__law_turned) (sc := defScope s__law_turned) (by decide +kernel)) (fun _ _ _ _ _ => (pg_name (i := 3) sc__law_turned.nd rfl (.inl rfl))) (fun _ _ _ _ _ => pts_nil) (fun _ _ _ _ _ => (pe_bmK (K := K) (by rfl) (pe_bm PySem.F.plainAttrs_list PySem.F.slot_list_pop PySem.F.type_list_pop mt_popAt (pv 2) (pa_cons (pe_callO O__law_draw (hr.mono (by omega)) (by rfl) (pa_cons (pv 0) (pa_cons (pe_callB (show CallR _ (.builtin "len") (rLenQ K) from call_len_seq) (by rfl) T.b_len (by decide +kernel) (pa_cons (pv 2) pa_nil)) pa_nil))) pa_nil))))) pa_nil)))))), ?_⟩
    refine ⟨.ref a, rfl, a, ws, rfl, .inr hA, fun o no => ?_⟩
    have bo := D0.fresh no
    generalize h1 : upd H o _ = H1
    obtain ⟨s1, e1⟩ := new_of h1 no
    have D1 := D0.same s1
    refine ⟨.ref a, rfl, a, rfl, ⟨_, Same.tup s1 hA⟩, fun B nB => ?_⟩
    have nB0 : H B = none := by
      cases hB : H B with
      | none => rfl
      | some x => rw [s1 _ _ hB] at nB; cases nB
    have oB : o ≠ B := fun z => by rw [z, nB] at e1; cases e1
    have bB := D1.fresh nB
    have sB := same_upd (o := .lst []) nB
    refine lc_it (walk_tup (K := K) (a := a) (xs := ws)) (fun k H' => Kept d c H H' ∧ ∃ (t' : Int) (ys xs : List V), Deck H' d c t' ∧ t' ≤ t + k ∧ H' B = some (.lst ys) ∧ H' o = some (.lst xs) ∧ (ys ++ xs).Perm ws ∧ ys.length = k) ⟨Kept.of (s1.trans sB), t, [], ws, D1.same sB, by omega, upd_same, sB _ _ e1, .refl _, rfl⟩ (fun k H' _ hP => Kept.tup D0 hP.1 hA) (fun k x H2 H3 hk hP hY => ?_) (fun H' hP => ?_)
    · obtain ⟨rfl, hx⟩ := hY
      obtain ⟨k', t', ys, xs, D', ht', eB, eo, pm, ly⟩ := hP
      have lx := pm.length_eq
      rw [List.length_append] at lx
      refine ⟨rfl, .ref o, rfl, .inl ⟨rfl, _, .inl (.inl eo)⟩, .ref d, rfl, .ref o, rfl, o, xs, rfl, .inl (.inl (.inl eo)), d, c, t', _, rfl, D', by omega, by omega, by omega, fun H4 j k4 D4 j0 j1 => ?_⟩
      have eo4 := k4 _ _ eo (fun z => bo (.inl z)) (fun z => bo (.inr z))
      have eB4 := k4 _ _ eB (fun z => bB (.inl z)) (fun z => bB (.inr z))
      have hj : j.toNat < xs.length := by omega
      refine ⟨o, xs, j, j.toNat, xs[j.toNat], rfl, rfl, eo4, by omega, by omega, ?_, List.getElem?_eq_getElem hj, ys, ?_, small1000 (by omega), ((k'.trans k4).mut no).mut nB0, t' + 1, ys ++ [xs[j.toNat]], xs.eraseIdx j.toNat, (D4.mut bo).mut bB, by omega, upd_same, ?_, ?_, by rw [List.length_append, ly]; rfl⟩
      · simp [seqIndex?, show ¬ j < 0 by omega]
        omega
      · rw [upd_ne (Ne.symm oB)]
        exact eB4
      · rw [upd_ne oB]
        exact upd_same
      · refine List.Perm.trans ?_ pm
        rw [List.append_assoc]
        refine List.Perm.append_left _ ?_
        rw [List.eraseIdx_eq_take_drop_succ]
        have e : xs = xs.take j.toNat ++ xs[j.toNat] :: xs.drop (j.toNat + 1) := by rw [List.getElem_cons_drop, List.take_append_drop]
        have pmid := (List.perm_middle (a := xs[j.toNat]) (l₁ := xs.take j.toNat) (l₂ := xs.drop (j.toNat + 1))).symm
        rw [← e] at pmid
        exact pmid
    · obtain ⟨k', t', ys, xs, D', ht', eB, eo, pm, ly⟩ := hP
      have lx := pm.length_eq
      rw [List.length_append] at lx
      have : xs = [] := List.length_eq_zero_iff.mp (by omega)
      subst this
      rw [List.append_nil] at pm
      refine ⟨B, _, rfl, .inl ⟨.inl (.inl eB), fun l nl => ?_⟩⟩
      have sl := same_upd (o := .tup ys) nl
      exact q _ l ys t' (k'.trans (Kept.of sl)) (D'.same sl) ht' upd_same pm
end
end OC
set_option Elab.async false
set_option linter.all false
set_option maxRecDepth 100000
set_option maxHeartbeats 4000000
namespace OC
open PySem PySem.Spec PyProof.Rows L2
section
variable {P : Program} {w : World} {K : PySem.W.Frag} {mg : Str → Option Value} {base : Heap}
theorem kept_none {d c l : Addr} {t : Int} {H H' : Hp} (D : Deck H' d c t) (k : Kept d c H H') (n : H' l = none) : H l = none := by
  cases hl : H l with
  | none => rfl
  | some o =>
    have bl := D.fresh n
    rw [k l o hl (fun z => bl (.inl z)) (fun z => bl (.inr z))] at n
    cases n
def sp_names3 : Sp := fun vs H Q _ => ∃ (d c : Addr) (t : Int) (m : Nat), vs = [.ref d, .int (m : Int)] ∧ Deck H d c t ∧ t ≤ 900000 ∧ m ≤ 26 ∧ ∀ H' a (xs : List Str) t', Kept d c H H' → Deck H' d c t' → t' ≤ t + 12 → H a = none → H' a = some (.lst (xs.map V.str)) → xs.length = m → sortedS xs = true → xs.Nodup → (∀ x ∈ xs, NameOk x) → Q (.ref a) H'
theorem ok__law_names (T : Top K mg) : Ok P w K mg base 2 "_law_names" ["_law_deck_here", "_law_many"] sp_names3 := by
  have O__law_draw := ok__law_draw (P := P) (w := w) (base := base) T
  refine T.d__law_names.ok sc__law_names (fun vs H Q E h => ?_) (fun f cdv A outer s H vs Q E hr h => ?_)
  · obtain ⟨d, c, t, m, rfl, _⟩ := h
    rfl
  · obtain ⟨d, c, t, m, rfl, D0, ht, hm, q⟩ := h
    refine ⟨_, ((pss_cons (ps_set (i := 2) sc__law_names.nd rfl (.inr rfl) pe_str)
      (pss_cons (ps_set (i := 4) sc__law_names.nd rfl (.inr rfl) (pe_join pe_str (pe_lc (own := [("_law_k", 3)]) (g := gName 3) (by rfl) sc__law_names.nd (pi_range1 (by rfl) T.b_range (pa_cons (pe_callO O__law_draw (hr.mono (by omega)) (by rfl) (pa_cons (pv 0) (pa_cons pe_int pa_nil))) pa_nil)) (blkOk_by (own := [("_law_k", 3)]) (N := N__law_names) (sc := defScope s__law_names) (by decide +kernel)) (fun _ _ _ _ _ => (pg_name (i := 3) sc__law_names.nd rfl (.inl rfl))) (fun _ _ _ _ _ => pts_nil) (fun _ _ _ _ _ => (pe_ix ix_str (pv 2) (pe_callO O__law_draw (hr.mono (by omega)) (by rfl) (pa_cons (pv 0) (pa_cons pe_int pa_nil))) (fun _ _ => rfl))))))
      (pss_cons (ps_set (i := 5) sc__law_names.nd rfl (.inr rfl) (pe_callO O__law_draw (hr.mono (by omega)) (by rfl) (pa_cons (pv 0) (pa_cons (pe_op op_add (pe_callB call_len_str (by rfl) T.b_len (by decide +kernel) (pa_cons (pv 4) pa_nil)) pe_int) pa_nil))))
      (pss_cons (ps_set (i := 6) sc__law_names.nd rfl (.inr rfl) (pe_callO O__law_draw (hr.mono (by omega)) (by rfl) (pa_cons (pv 0) (pa_cons pe_int pa_nil))))
      (pss_one (ps_ret (pe_callB cr_sortedS (by rfl) T.b_sorted (by decide +kernel) (pa_cons (pe_lc (own := [("_law_k", 3)]) (g := gName 3) (by rfl) sc__law_names.nd (pi_range1 (by rfl) T.b_range (pa_cons (pv 1) pa_nil)) (blkOk_by (own := [("_law_k", 3)]) (N := N__law_names) (sc := defScope s__law_names) (by decide +kernel)) (fun _ _ _ _ _ => (pg_name (i := 3) sc__law_names.nd rfl (.inl rfl))) (fun _ _ _ _ _ => pts_nil) (fun _ _ _ _ _ => (pe_op op_add_str (pe_op op_add_str (pe_slice C8.sl_txt (pv 4) po_none (po_some (pv 5))) (pe_ix ix_str (pv 2) (pe_op op_mod (pe_op op_add (pv 6) (pe_op op_mul pe_int (pv 3))) pe_int) (fun _ _ => rfl))) (pe_slice C8.sl_txt (pv 4) (po_some (pv 5)) po_none)))) pa_nil))))))))), ?_⟩
    refine ⟨⟨_, rfl⟩, .ref d, rfl, d, c, t, 8, rfl, D0, by omega, by decide, by decide, fun H2 lg k2 D2 a0 a1 => ⟨lg, rfl, by omega, by omega, fun D nD => ?_⟩⟩
    have lg7 : 0 ≤ lg ∧ lg ≤ 7 := by omega
    have bD := D2.fresh nD
    refine lc_range (lo := 0) (n := lg.toNat) (fun k H' => Kept d c H2 H' ∧ ∃ (t' : Int) (cs : List Nat), Deck H' d c t' ∧ t' ≤ t + 1 + k ∧ H' D = some (.lst ((cs.map fun c => SX.S [c]).map V.str)) ∧ cs.length = k ∧ ∀ x ∈ cs, 97 ≤ x ∧ x ≤ 122) ⟨Kept.of (same_upd nD), t + 1, [], D2.same (same_upd nD), by omega, upd_same, rfl, fun x hx => nomatch hx⟩ (fun k H' hk hW => ?_) (fun H' hW => ?_)
    · obtain ⟨k', t', cs, D', ht', eB, ln, ro⟩ := hW
      refine ⟨rfl, .str lettersS, rfl, .ref d, rfl, d, c, t', 26, rfl, D', by omega, by decide, by decide, fun H3 x k3 D3 x0 x1 => ?_⟩
      refine ⟨lettersS, x, _, rfl, rfl, by decide +kernel, letters_at x0 x1, ?_⟩
      refine ⟨_, k3 _ _ eB (fun z => bD (.inl z)) (fun z => bD (.inr z)), by rw [List.length_map, List.length_map]; exact small1000 (by omega), (k'.trans k3).mut nD, t' + 1, cs ++ [97 + x.toNat], D3.mut bD, by omega, ?_, by rw [List.length_append, ln]; rfl, fun y hy => ?_⟩
      · rw [upd_same, List.map_append, List.map_append]
        rfl
      · rcases List.mem_append.mp hy with h | h
        · exact ro y h
        · rw [List.mem_singleton.mp h]
          omega
    obtain ⟨k3, t3, cs, D3, ht3, eB, ln, ro⟩ := hW
    refine ⟨_, D, _, rfl, rfl, .inl (.inl (.inl eB)), ?_, ?_⟩
    · rw [ones_sum, List.length_map, ln, show (Str.ofString "").length = 0 from rfl]
      omega
    rw [join_cs]
    have lcs : (SX.S cs).length = cs.length := SX.S_len cs
    have sz : (SX.S cs).length ≤ sizeLine := by rw [lcs]; exact Nat.le_of_lt (small1000 (by omega))
    refine ⟨.ref d, rfl, .str (SX.S cs), rfl, _, rfl, sz, _, 1, rfl, rfl, d, c, t3, _, rfl, D3, by omega, by rw [lcs]; omega, by rw [lcs]; omega, fun H4 cut k4 D4 c0 c1 => ?_⟩
    refine ⟨.ref d, rfl, d, c, t3 + 1, 26, rfl, D4, by omega, by decide, by decide, fun H5 fi k5 D5 f0 f1 => ?_⟩
    have hs8 : (5 : Int) = 1 ∨ (5 : Int) = 3 ∨ (5 : Int) = 5 ∨ (5 : Int) = 7 ∨ (5 : Int) = 9 ∨ (5 : Int) = 11 ∨ (5 : Int) = 15 ∨ (5 : Int) = 17 := .inr (.inr (.inl rfl))
    refine ⟨.int m, rfl, m, rfl, by omega, by omega, fun L nL => ?_⟩
    have k07 : Kept d c H H5 := k2.trans (k3.trans (k4.trans k5))
    refine lc_range (lo := 0) (n := (m : Int).toNat) (fun k H' => Same H5 H' ∧ H' L = some (.lst (((List.range k).map (nameAt cs cut fi 5)).map V.str))) ⟨same_upd nL, upd_same⟩ (fun k H' hk hW => ?_) (fun H' hW => ?_)
    · obtain ⟨s8, e8⟩ := hW
      have sk : (0 : Int) ≤ 5 * k ∧ (5 : Int) * k ≤ 17 * 26 := by omega
      have r0 := Int.emod_nonneg (fi + 5 * k) (b := 26) (by decide)
      have r1 := Int.emod_lt_of_pos (fi + 5 * k) (b := 26) (by decide)
      refine ⟨rfl, .str (SX.S cs), rfl, .int cut, rfl, cut, rfl, _, rfl, sz, .str lettersS, rfl, .int fi, rfl, .int (0 + k), rfl, ?_⟩
      have l1 : (SX.S (cs.take cut.toNat)).length ≤ 7 := by
        rw [SX.S_len, List.length_take]
        omega
      have l2 : (SX.S (cs.drop cut.toNat)).length ≤ 7 := by
        rw [SX.S_len, List.length_drop]
        omega
      rw [show (0 : Int) + (k : Int) = (k : Int) by omega]
      refine ⟨5, k, rfl, rfl, .inl ⟨by omega, by omega⟩, fi, _, rfl, rfl, _, 26, rfl, rfl, show (0 : Int) < 26 by decide, lettersS, _, _, rfl, rfl, by decide +kernel, letters_at r0 r1, ?_⟩
      rw [SX.slice_to c0]
      refine ⟨_, _, rfl, rfl, ?_, .str (SX.S cs), rfl, .int cut, rfl, cut, rfl, _, rfl, sz, ?_⟩
      · exact Nat.le_of_lt (small1000 (by rw [show (Str.length ⟨#[97 + ((fi + 5 * k) % 26).toNat]⟩) = 1 from rfl]; omega))
      rw [SX.slice_from c0]
      refine ⟨_, _, rfl, rfl, ?_, _, e8, by rw [List.length_map, List.length_map, List.length_range]; exact small1000 (by omega), same_mut s8 nL, ?_⟩
      · refine Nat.le_of_lt (small1000 ?_)
        rw [show (Str.mk #[97 + ((fi + 5 * k) % 26).toNat]) = SX.S [97 + ((fi + 5 * k) % 26).toNat] from rfl, SX.S_cat, SX.S_len, List.length_append]
        rw [SX.S_len] at l1
        simp only [List.length_cons, List.length_nil]
        omega
      · rw [upd_same, List.range_succ, List.map_append, List.map_append]
        rw [show (Str.mk #[97 + ((fi + 5 * k) % 26).toNat]) = SX.S [97 + ((fi + 5 * k) % 26).toNat] from rfl, SX.S_cat, SX.S_cat, List.append_assoc]
        rfl
    · obtain ⟨s8, e8⟩ := hW
      refine ⟨L, _, rfl, .inl (.inl e8), by rw [List.length_map, List.length_range]; omega, fun ys p pm so np => ?_⟩
      have s9 := same_upd (o := .lst (ys.map V.str)) np
      refine q _ p ys _ ((k07.trans (Kept.of s8)).trans (Kept.of s9)) ((D5.same s8).same s9) (by omega) (kept_none (D5.same s8) (k07.trans (Kept.of s8)) np) upd_same ?_ so (pm.nodup_iff.mpr (names_nodup hs8 (by omega))) (fun x hx => ?_)
      · rw [pm.length_eq, List.length_map, List.length_range]
        omega
      · obtain ⟨i, _, rfl⟩ := List.mem_map.mp (pm.mem_iff.mp hx)
        exact nameAt_ok ro (by omega)
def sp_otherwise (K : PySem.W.Frag) : Sp := fun vs H Q _ => ∃ (d c a : Addr) (t p : Int) (n : Nat) (rs : List (List Int)), vs = [.ref d, .int p, .int (n : Int), .ref a] ∧ Deck H d c t ∧ t ≤ 900000 ∧ RowsAt K H a rs ∧ RowsOk p n rs ∧ rs.length ≤ 20 ∧ Fld p ∧ p ≤ 1000 ∧ 1 ≤ n ∧ n ≤ 10 ∧
  ∀ H' l os t', Kept d c H H' → Deck H' d c t' → t' ≤ t + 1000 → RowsAt K H' l os → RowsOk p n os → os.length = rs.length → (∀ r ∈ os, InR p rs r) → (∀ r ∈ rs, InR p os r) → Q (.ref l) H'
theorem ok__law_otherwise (T : Top K mg) : Ok P w K mg base 3 "_law_otherwise" ["_law_deck_here", "_law_p", "_law_n", "_law_rows_here"] (sp_otherwise K) := by
  have O__law_draw := ok__law_draw (P := P) (w := w) (base := base) T
  have O__law_plus := ok__law_plus (P := P) (w := w) (base := base) T
  have O__law_mixed := ok_mixed2 (P := P) (w := w) (base := base) T
  have O__law_turned := ok__law_turned (P := P) (w := w) (base := base) T
  refine T.d__law_otherwise.ok sc__law_otherwise (fun vs H Q E h => ?_) (fun f cdv A outer s H vs Q E hr h => ?_)
  · obtain ⟨d, c, a, t, p, n, rs, rfl, _⟩ := h
    rfl
  · obtain ⟨d, c, a, t, p, n, rs, rfl, D0, ht, hA0, ok, lrs, hF, hp, n1, hn, q⟩ := h
    have hp2 := hF.1
    refine ⟨_, ((pss_cons (ps_set (i := 4) sc__law_otherwise.nd rfl (.inl rfl) (pe_lst pa_nil))
      (pss_cons (ps_for PassesOwn.never (by rfl) (pi_tup (pe_callO O__law_turned (hr.mono (by omega)) (by rfl) (pa_cons (pv 0) (pa_cons (pv 3) pa_nil)))) (pg_name (i := 5) sc__law_otherwise.nd rfl (.inl rfl))
        (pss_cons (ps_set (i := 6) sc__law_otherwise.nd rfl (.inl rfl) (pe_callO O__law_plus (hr.mono (by omega)) (by rfl) (pa_cons (pv 1) (pa_cons (pe_op op_repB (pe_tup (pa_cons pe_int pa_nil)) (pv 2)) (pa_cons (pv 5) (pa_cons (pe_op op_add pe_int (pe_callO O__law_draw (hr.mono (by omega)) (by rfl) (pa_cons (pv 0) (pa_cons (pe_op op_sub (pv 1) pe_int) pa_nil)))) pa_nil))))))
        (C8.pss_cut (ps_if (pt_cmpR op_eq (pe_callO O__law_draw (hr.mono (by omega)) (by rfl) (pa_cons (pv 0) (pa_cons pe_int pa_nil))) pe_int (nomark _))
          (pss_one (ps_set (i := 6) sc__law_otherwise.nd rfl (.inl rfl) (pe_callO O__law_plus (hr.mono (by omega)) (by rfl) (pa_cons (pv 1) (pa_cons (pv 6) (pa_cons (pe_callO O__law_mixed (hr.mono (by omega)) (by rfl) (pa_cons (pv 0) (pa_cons (pv 1) (pa_cons (pv 2) (pa_cons (pv 4) pa_nil))))) (pa_cons pe_int pa_nil)))))))
          pss_nil)
        (pss_one (ps_expr (pe_bm PySem.F.plainAttrs_list PySem.F.slot_list_append PySem.F.type_list_append mt_append (pv 4) (pa_cons (pv 6) pa_nil)))))))
      (pss_one (ps_ret (pe_callTy call_tuple_of (by rfl) T.b_tuple (by decide +kernel) (pa_cons (pv 4) pa_nil))))))), ?_⟩
    refine ⟨Nat.zero_le _, fun o no => ?_⟩
    have bo := D0.fresh no
    generalize h1 : upd H o _ = H1
    obtain ⟨s1, e1⟩ := new_of h1 no
    have D1 := D0.same s1
    obtain ⟨ws, hA, hR⟩ := id (RowsAt.same s1 hA0)
    have lw := rows_len hR
    refine ⟨.ref d, rfl, .ref a, rfl, d, c, a, t, ws, rfl, D1, by omega, hA, by omega, fun H2 l2 ys t2 k2 D2 ht2 e2 pm => ?_⟩
    have eo2 := k2 _ _ e1 (fun z => bo (.inl z)) (fun z => bo (.inr z))
    have tk2 := Tk.kept D1 k2
    obtain ⟨ts, pt, hT⟩ := dpAll_perm pm (dpAll_tk tk2 _ _ (noL_rows rs) hR)
    have lts := pt.length_eq
    have ly := rows_len hT
    have okt : RowsOk p n ts := fun r hr => ok r (pt.mem_iff.mp hr)
    have k02 : Kept d c H H2 := (Kept.of s1).trans k2
    have sl2 : SqT K H2 l2 ys := .inl (.inl e2)
    refine ⟨l2, rfl, ⟨_, sl2⟩, for_it (walk_tup (K := K) (a := l2) (xs := ys)) (fun i σ H' => Kept d c H H' ∧ Tk H2 H' ∧ ∃ (t' : Int) (us : List V) (fs : List (List Int)) (y4 y6 : Option V), Deck H' d c t' ∧ t' ≤ t2 + 30 * i ∧ H' o = some (.lst us) ∧ DpAll K H' us (fs.map rowD) ∧ fs.length = i ∧ RowsOk p n fs ∧ (∀ r ∈ fs, InR p (ts.take i) r) ∧ (∀ r ∈ ts.take i, InR p fs r) ∧ σ = [some (.ref d), some (.int p), some (.int (n : Int)), some (.ref a), some (.ref o), y4, y6]) ⟨k02, Tk.refl _, t2, [], [], none, none, D2, by omega, eo2, .nil, rfl, fun r hr => (nomatch hr), fun r hr => (nomatch hr), fun r hr => by simp at hr, rfl⟩ (fun i σ H' _ hW => hW.2.1 K _ _ sl2) (fun i x σ H3' H3 hi hW hY => ?_) (fun σ H' hW => ?_)⟩
    · obtain ⟨rfl, hx⟩ := hY
      obtain ⟨k3, tk3, t3, us, fs, y4, y6, D3, ht3, eo3, hU, lf, okf, in1, in2, rfl⟩ := hW
      obtain ⟨b, r, rfl, gr, mr, hb⟩ := dpAll_row (dpAll_tk tk3 _ _ (noL_rows ts) hT) hx
      have okr := okt r mr
      have lu := rows_len hU
      have hi' : i < 20 := by
        have : i < ys.length := hi
        omega
      have rows3 : RowsAt K H3 a rs := RowsAt.tk2 (tk2.trans tk3) ⟨ws, hA, hR⟩
      refine ⟨.int p, rfl, sz1000 (by decide : (1 : Nat) ≤ 1000), fun u nu => ?_⟩
      generalize h4 : upd H3 u _ = H4
      obtain ⟨s4, e4⟩ := new_of h4 nu
      refine ⟨.int n, rfl, u, n, _, rfl, rfl, .inl (.inl e4), by simp, by omega, by omega, by simp, fun z H5 s5 hz => ?_⟩
      rw [show ((n : Int)).toNat = n from rfl, rep_int] at hz
      have D5 := D3.same (s4.trans s5)
      refine ⟨.ref b, rfl, .ref d, rfl, .int p, rfl, p, 1, rfl, rfl, d, c, t3, p - 1, rfl, D5, by omega, by omega, by omega, fun H6 m k6 D6 m0 m1 => ?_⟩
      have lz : (List.replicate n (0 : Int)).length = r.length := by rw [List.length_replicate, okr.1]
      refine ⟨1, m, rfl, rfl, z, b, _, r, p, 1 + m, rfl, Kept.tup D5 k6 hz, Kept.tup D5 k6 (Same.tup (s4.trans s5) hb), by rw [List.length_replicate]; omega, by omega, by omega, by omega, fun H7 l7 s7 n7 e7 => ?_⟩
      have k37 : Kept d c H3 H7 := ((Kept.of (s4.trans s5)).trans k6).trans (Kept.of s7)
      have D7 := D6.same s7
      have eo7 := k37 _ _ eo3 (fun z => bo (.inl z)) (fun z => bo (.inr z))
      have hU7 := dpAll_tk (Tk.kept D3 k37) _ _ (noL_rows fs) hU
      generalize hown : plusR p (List.replicate n 0) r (1 + m) = own at e7
      have lown : own.length = n := by rw [← hown, plus_len lz, List.length_replicate]
      have oown : RowOk p own := by rw [← hown]; exact plus_ok (by omega)
      -- perhaps what was found is put to it
      refine ⟨fun σ' Hf => ∃ (t' : Int) (b' : Addr) (own' : List Int), Kept d c H3 Hf ∧ Deck Hf d c t' ∧ t' ≤ t3 + 30 ∧ SqT K Hf b' (own'.map V.int) ∧ own'.length = n ∧ RowOk p own' ∧ (own' = own ∨ ∃ x, InR p fs x ∧ x.length = n ∧ own' = plusR p own x 1) ∧ σ' = [some (.ref d), some (.int p), some (.int (n : Int)), some (.ref a), some (.ref o), some (.ref b), some (.ref b')], ?_, ?_⟩
      · refine ⟨.ref d, rfl, d, c, t3 + 1, 2, rfl, D7, by omega, by decide, by decide, fun H8 w8 k8 D8 w0 w1 => ?_⟩
        have k38 := k37.trans k8
        have eo8 := k8 _ _ eo7 (fun z => bo (.inl z)) (fun z => bo (.inr z))
        have x8 : SqT K H8 l7 (own.map V.int) := Kept.tup D7 k8 (.inl (.inl e7))
        refine ⟨rfl, _, rfl, ite2 (fun e => ?_) (fun e => ?_)⟩
        · refine ⟨.int p, rfl, .ref l7, rfl, .ref d, rfl, .int p, rfl, .int n, rfl, .ref o, rfl, d, c, o, t3 + 1 + 1, p, n, us, fs, rfl, D8, by omega, by omega, by omega, by omega, by omega, .inl ⟨eo8, bo⟩, dpAll_tk (Tk.kept D7 k8) _ _ (noL_rows fs) hU7, by omega, fun r hr => by rw [(okf r hr).1], fun H9 a9 r9 t9 k9 D9 ht9 e9 l9 o9 in9 => ?_⟩
          have l9' : r9.length = n := by omega
          refine ⟨l7, a9, own, r9, p, 1, rfl, Kept.tup D8 k9 x8, e9, by omega, by omega, by decide, by decide, fun H10 l10 s10 n10 e10 => ?_⟩
          exact ⟨t9, l10, _, (k38.trans k9).trans (Kept.of s10), D9.same s10, by omega, .inl (.inl e10), by rw [plus_len (by omega)]; exact lown, plus_ok (by omega), .inr ⟨r9, in9, l9', rfl⟩, rfl⟩
        · exact ⟨t3 + 1 + 1, l7, own, k38, D8, by omega, x8, lown, oown, .inl rfl, rfl⟩
      rintro σ' Hf ⟨t', b', own', kf, Df, htf, hb', lo', oo', eo', rfl⟩
      have eof := kf _ _ eo3 (fun z => bo (.inl z)) (fun z => bo (.inr z))
      have tkf := Tk.kept D3 kf
      have hUf := dpAll_tk tkf _ _ (noL_rows fs) hU
      have tkm : Tk Hf (upd Hf o (.lst (us ++ [.ref b']))) := (Tk.refl Hf).mut eof
      have etake : ts.take (i + 1) = ts.take i ++ [r] := by
        rw [List.take_add_one, gr]
        rfl
      refine ⟨.ref o, rfl, .inl ⟨rfl, _, .inl (.inl eof)⟩, .ref b', rfl, o, us, _, rfl, rfl, eof, small1000 (by omega), (k3.trans kf).mut no, (tk3.trans tkf).trans tkm, t', us ++ [.ref b'], fs ++ [own'], _, _, Df.mut bo, by omega, upd_same, ?_, by rw [List.length_append, lf]; rfl, ?_, ?_, ?_, rfl⟩
      · rw [List.map_append]
        exact dpAll_append (dpAll_tk tkm _ _ (noL_rows fs) hUf) (.cons (dp_tk tkm _ _ (noL_row own') (row_dp hb')) .nil)
      · intro x hx
        rcases List.mem_append.mp hx with hx | hx
        · exact okf x hx
        · have : x = own' := by simpa using hx
          subst this
          exact ⟨lo', oo'⟩
      · have inr : InR p (ts.take (i + 1)) r := InR.mem (by rw [etake]; simp)
        have inf : ∀ x, InR p fs x → InR p (ts.take (i + 1)) x := fun x hx => InR.mono (fun y hy => InR.mono (fun w hw => InR.mem (by rw [etake]; exact List.mem_append_left _ hw)) (in1 y hy)) hx
        have ino : InR p (ts.take (i + 1)) own := by
          rw [← hown]
          exact InR.plus _ lz (InR.noughts _ _ _) inr
        intro x hx
        rcases List.mem_append.mp hx with hx | hx
        · exact inf x (InR.mem hx)
        · have : x = own' := by simpa using hx
          subst this
          rcases eo' with rfl | ⟨y, hy, ly', rfl⟩
          · exact ino
          · exact InR.plus _ (by omega) ino (inf y hy)
      · intro x hx
        have up : ∀ y, InR p fs y → InR p (fs ++ [own']) y := fun y hy => InR.mono (fun w hw => InR.mem (List.mem_append_left _ hw)) hy
        rw [etake] at hx
        rcases List.mem_append.mp hx with hx | hx
        · exact up x (in2 x hx)
        · have : x = r := by simpa using hx
          subst this
          refine InR.back hF (m := 1 + m) (own := own') (n := n) (by omega) (by omega) okr.1 (InR.mem (by simp)) ?_
          rcases eo' with h | ⟨y, hy, ly', h⟩
          · exact .inl (by rw [h, hown])
          · exact .inr ⟨y, up y hy, ly', by rw [h, hown]⟩
    · obtain ⟨k3, tk3, t3, us, fs, y4, y6, D3, ht3, eo3, hU, lf, okf, in1, in2, rfl⟩ := hW
      have lf : fs.length = ys.length := lf
      rw [show ts.take ys.length = ts from List.take_of_length_le (by omega)] at in1 in2
      have in1 : ∀ r ∈ fs, InR p rs r := fun r hr => InR.mono (fun y hy => InR.mem (pt.mem_iff.mp hy)) (in1 r hr)
      have in2 : ∀ r ∈ rs, InR p fs r := fun r hr => in2 r (pt.mem_iff.mpr hr)
      have ht3 : t3 ≤ t2 + 30 * (ys.length : Int) := ht3
      refine ⟨.ref o, rfl, o, _, rfl, .inl ⟨.inl (.inl eo3), fun l nl => ?_⟩⟩
      generalize h6 : upd H' l _ = H6
      obtain ⟨s6, e6⟩ := new_of h6 nl
      exact q H6 l fs t3 (k3.trans (Kept.of s6)) (D3.same s6) (by omega) ⟨us, .inl (.inl e6), dpAll_same s6 _ _ hU⟩ okf (by omega) in1 in2
end
end OC
set_option Elab.async false
set_option linter.all false
set_option maxRecDepth 100000
set_option maxHeartbeats 4000000
namespace OC
open PySem PySem.Spec PyProof.Rows L2
section
variable {P : Program} {w : World} {K : PySem.W.Frag} {mg : Str → Option Value} {base : Heap}
def sp_joined (K : PySem.W.Frag) : Sp := fun vs H Q _ => ∃ (a b : Addr) (one other : List (List Int)) (p : Int) (n : Nat), vs = [.int p, .int (n : Int), .ref a, .ref b] ∧ RowsAt K H a one ∧ RowsAt K H b other ∧ RowsOk p n one ∧ RowsOk p n other ∧ one.length ≤ 400 ∧ other.length ≤ 400 ∧ Fld p ∧ 1 ≤ n ∧ n ≤ 100 ∧ p ≤ 1000 ∧
  ∀ H' l, Same H H' → RowsAt K H' l (joinR p n one other) → Q (.ref l) H'
theorem RowsAt.cat {K : PySem.W.Frag} {H H' : Hp} {a b c : Addr} {one other : List (List Int)} {ws us : List V} (h1 : DpAll K H ws (one.map rowD)) (h2 : DpAll K H us (other.map rowD)) (s : Same H H') (h : SqT K H' c (ws ++ us)) : RowsAt K H' c (one ++ other) :=
  ⟨_, h, by rw [List.map_append]; exact dpAll_append (dpAll_same s _ _ h1) (dpAll_same s _ _ h2)⟩
theorem ok_joined (T : Top K mg) : Ok P w K mg base 6 "joined" ["p", "n", "one", "other"] (sp_joined K) := by
  have O_room_of := ok_room_of (P := P) (w := w) (base := base) T
  refine T.d_joined.ok sc_joined (fun vs H Q E h => ?_) (fun f cdv A outer s H vs Q E hr h => ?_)
  · obtain ⟨a, b, one, other, p, n, rfl, _⟩ := h
    rfl
  · obtain ⟨a, b, one, other, p, n, rfl, ⟨ws, hA, hR⟩, ⟨us, hB, hS⟩, ok1, ok2, l1, l2, hF, n1, hn, hp, q⟩ := h
    refine ⟨_, ((pss_one (ps_ret (pe_callO O_room_of (hr.mono (by omega)) (by rfl) (pa_cons (pv 0) (pa_cons (pv 1) (pa_cons (pe_op op_catB (pv 2) (pv 3)) pa_nil))))))), ?_⟩
    have lw := rows_len hR
    have lu := rows_len hS
    refine ⟨.int p, rfl, .int n, rfl, .ref a, rfl, .ref b, rfl, a, b, ws, us, rfl, rfl, hA, hB, sz1000 (by omega), fun m H1 s1 h1 => ?_⟩
    exact ⟨m, _, p, n, rfl, RowsAt.cat (a := a) (b := b) hR hS s1 h1, rowsOk_app ok1 ok2, hF, n1, hn, hp, fun H2 l2 s2 h2 => q H2 l2 (s1.trans s2) h2⟩
def sp_shared (K : PySem.W.Frag) : Sp := fun vs H Q _ => ∃ (a b : Addr) (one other : List (List Int)) (p : Int) (n : Nat), vs = [.int p, .int (n : Int), .ref a, .ref b] ∧ RowsAt K H a one ∧ RowsAt K H b other ∧ PFR p n one ∧ PFR p n other ∧ Fld p ∧ 1 ≤ n ∧ n ≤ 100 ∧ p ≤ 1000 ∧
  ∀ H' l, Same H H' → RowsAt K H' l (meetR p n one other) → Q (.ref l) H'
theorem ok_shared (T : Top K mg) : Ok P w K mg base 7 "shared" ["p", "n", "one", "other"] (sp_shared K) := by
  have O_across := ok_across (P := P) (w := w) (base := base) T
  have O_joined := ok_joined (P := P) (w := w) (base := base) T
  refine T.d_shared.ok sc_shared (fun vs H Q E h => ?_) (fun f cdv A outer s H vs Q E hr h => ?_)
  · obtain ⟨a, b, one, other, p, n, rfl, _⟩ := h
    rfl
  · obtain ⟨a, b, one, other, p, n, rfl, hA, hB, pf1, pf2, hF, n1, hn, hp, q⟩ := h
    refine ⟨_, ((pss_one (ps_ret (pe_callO O_across (hr.mono (by omega)) (by rfl) (pa_cons (pv 0) (pa_cons (pv 1) (pa_cons (pe_callO O_joined (hr.mono (by omega)) (by rfl) (pa_cons (pv 0) (pa_cons (pv 1) (pa_cons (pe_callO O_across (hr.mono (by omega)) (by rfl) (pa_cons (pv 0) (pa_cons (pv 1) (pa_cons (pv 2) pa_nil)))) (pa_cons (pe_callO O_across (hr.mono (by omega)) (by rfl) (pa_cons (pv 0) (pa_cons (pv 1) (pa_cons (pv 3) pa_nil)))) pa_nil))))) pa_nil))))))), ?_⟩
    have o1 := PFR.across hF n one
    have o2 := PFR.across hF n other
    have l1 := PFR.len hF o1
    have l2 := PFR.len hF o2
    refine ⟨.int p, rfl, .int n, rfl, .int p, rfl, .int n, rfl, .int p, rfl, .int n, rfl, .ref a, rfl, a, one, p, n, rfl, hA, pf1, hF, n1, hn, hp, fun H1 c s1 h1 => ?_⟩
    refine ⟨.int p, rfl, .int n, rfl, .ref b, rfl, b, other, p, n, rfl, RowsAt.same s1 hB, pf2, hF, n1, hn, hp, fun H2 d s2 h2 => ?_⟩
    refine ⟨c, d, _, _, p, n, rfl, RowsAt.same s2 h1, h2, o1.1, o2.1, by omega, by omega, hF, n1, hn, hp, fun H3 e s3 h3 => ?_⟩
    exact ⟨e, _, p, n, rfl, h3, join_pf hF o1.1 o2.1, hF, n1, hn, hp, fun H4 l s4 h4 => q H4 l ((s1.trans s2).trans (s3.trans s4)) h4⟩
/-- what some hands and the listener know together -/
def roomO (p : Int) (n : Nat) (kn : List (List Int)) (hs : List (Str × List (List Int))) (ns : List Str) : List (List Int) := plainR p n (kn ++ selR ns hs)
def commonF (p : Int) (n : Nat) (kn : List (List Int)) (hs : List (Str × List (List Int))) (acc : List (List Int)) (xs : List Str) : List (List Int) := xs.foldl (fun a y => meetR p n a (roomO p n kn hs [y])) acc
/-- what each of some hands knows -/
def commonR (p : Int) (n : Nat) (kn : List (List Int)) (hs : List (Str × List (List Int))) : List Str → List (List Int)
  | [] => []
  | x :: xs => commonF p n kn hs (roomO p n kn hs [x]) xs
section
variable {p : Int} {n : Nat} {kn : List (List Int)} {hs : List (Str × List (List Int))}
theorem roomO_pf (G : StandR p n kn hs) (ns : List Str) : PFR p n (roomO p n kn hs ns) := PFR.of_plain G.fld (rowsOk_app G.ok (sel_ok G.rm))
theorem commonF_pf (G : StandR p n kn hs) : ∀ (xs : List Str) (acc : List (List Int)), PFR p n acc → PFR p n (commonF p n kn hs acc xs)
  | [], _, h => h
  | y :: xs, acc, h => commonF_pf G xs _ (meet_pf G.fld)
theorem commonF_snoc (acc : List (List Int)) (xs : List Str) (y : Str) : commonF p n kn hs acc (xs ++ [y]) = meetR p n (commonF p n kn hs acc xs) (roomO p n kn hs [y]) := by
  unfold commonF
  rw [List.foldl_append]
  rfl
theorem common_pf (G : StandR p n kn hs) {ns : List Str} (h : ns ≠ []) : PFR p n (commonR p n kn hs ns) := by
  cases ns with
  | nil => exact absurd rfl h
  | cons x xs => exact commonF_pf G xs _ (roomO_pf G [x])
end
def sp_rising (K : PySem.W.Frag) : Sp := fun vs H Q _ => ∃ (a : Addr) (xs : List V) (ds : List PyData), vs = [.ref a] ∧ SqT K H a xs ∧ DpAll K H xs ds ∧ W.AllAlike ds ∧ (∀ d ∈ ds, d ≠ .none ∧ d.depth ≤ 60) ∧ xs.length ≤ 1000 ∧ ∀ H', Same H H' → Q (.bl (risD ds)) H'
theorem ok_is_rising (T : Top K mg) : Ok P w K mg base 1 "is_rising" ["things"] (sp_rising K) := by
  refine T.d_is_rising.ok sc_is_rising (fun vs H Q E h => ?_) (fun f cdv A outer s H vs Q E hr h => ?_)
  · obtain ⟨a, xs, ds, rfl, _⟩ := h
    rfl
  · obtain ⟨a, xs, ds, rfl, hA, hx, al, ne, l1, q⟩ := h
    refine ⟨_, ((pss_one (ps_ret (pe_callB (cr_all (by rfl)) (by rfl) T.b_all (by decide +kernel) (pa_cons (pe_lc (own := [("one", 1), ("other", 2)]) (g := gTup K 2 (gCons (gName 1) (gCons (gName 2) gNil))) (by rfl) sc_is_rising.nd (pi_zipB (by rfl) T.b_zip (pa_cons (pv 0) (pa_cons (pe_slice sl_tupB (pv 0) (po_some pe_int) po_none) pa_nil))) (blkOk_by (own := [("one", 1), ("other", 2)]) (N := N_is_rising) (sc := defScope s_is_rising) (by decide +kernel)) (fun _ _ _ _ _ => (pg_tup (by rfl) (pgs_cons (pg_name (i := 1) sc_is_rising.nd rfl (.inl rfl)) (pgs_cons (pg_name (i := 2) sc_is_rising.nd rfl (.inl rfl)) pgs_nil)))) (fun _ _ _ _ _ => pts_nil) (fun _ _ _ _ _ => (pe_cmpR (show OpR _ (compareOp .Lt) (rLtD K) from op_ltD hr.units) (pv 1) (pv 2) (nomark _)))) pa_nil))))), ?_⟩
    have lx := dpAll_len hx
    refine ⟨.ref a, rfl, .ref a, rfl, 1, rfl, a, _, rfl, hA, fun b1 H1 s1 hb1 => ?_⟩
    rw [cut1] at hb1
    have hA1 := Same.tup s1 hA
    refine ⟨a, b1, _, _, rfl, hb1, .inl ⟨hA1, fun D nD => ?_⟩⟩
    refine lc_it (walk_zipT (K := K) (a := a) (b := b1) (xs := xs) (ys := xs.drop 1) rfl) (fun k H' => Same H1 H' ∧ H' D = some (.lst (((List.zipWith W.dataLt ds (ds.drop 1)).take k).map V.bl))) ⟨same_upd nD, upd_same⟩ (fun k H' _ hP => ⟨Same.tup hP.1 hA1, Same.tup hP.1 hb1⟩) (fun k x H2 H3 hk hP hY => ?_) (fun H' hP => ?_)
    · obtain ⟨Ta, x1, y1, rfl, nT, rfl, e1, e2⟩ := hY
      obtain ⟨sm, eD⟩ := hP
      have sT : Same H2 (upd H2 Ta (.tup [x1, y1])) := same_upd nT
      have e1 : xs[k]? = some x1 := e1
      have e2 : (xs.drop 1)[k]? = some y1 := e2
      rw [List.getElem?_drop] at e2
      obtain ⟨d1, g1, m1, p1⟩ := dpAll_get hx e1
      obtain ⟨d2, g2, m2, p2⟩ := dpAll_get hx e2
      have sa := (s1.trans sm).trans sT
      refine ⟨Ta, [x1, y1], rfl, .inl (.inl upd_same), rfl, x1, [y1], rfl, y1, [], rfl, rfl, rfl, ?_⟩
      refine ⟨x1, rfl, y1, rfl, d1, d2, dp_same sa _ _ p1, dp_same sa _ _ p2, al _ m1 _ m2, (ne _ m1).1, (ne _ m1).2, ?_⟩
      refine ⟨_, sT _ _ eD, ?_, same_mut (sm.trans sT) nD, ?_⟩
      · rw [List.length_map, List.length_take, List.length_zipWith]
        exact small1000 (by omega)
      · have gd : (ds.drop 1)[k]? = some d2 := by rw [List.getElem?_drop]; exact g2
        rw [upd_same, List.take_add_one, List.getElem?_zipWith, g1, gd, List.map_append]
        rfl
    · obtain ⟨sm, eD⟩ := hP
      rw [List.take_of_length_le (by rw [List.length_zipWith, List.length_drop, List.length_drop]; omega)] at eD
      exact ⟨D, _, rfl, .inl (.inl eD), q H' (s1.trans sm)⟩
theorem lp1 {f : Str} {v : V} : (putF f v []).length < 1000 := Nat.lt_of_le_of_lt (length_putF _ _ _) (by decide)
theorem lp2 {f g : Str} {v u : V} : (putF g u (putF f v [])).length < 1000 := by
  have h1 := length_putF f v []
  have h2 := length_putF g u (putF f v [])
  simp only [List.length_nil] at h1
  omega
theorem lp3 {f g e : Str} {v u z : V} : (putF e z (putF g u (putF f v []))).length < 1000 := by
  have h1 := length_putF f v []
  have h2 := length_putF g u (putF f v [])
  have h3 := length_putF e z (putF g u (putF f v []))
  simp only [List.length_nil] at h1
  omega
theorem lp4 {f g e d : Str} {v u z y : V} : (putF d y (putF e z (putF g u (putF f v [])))).length < 1000 := by
  have h1 := length_putF f v []
  have h2 := length_putF g u (putF f v [])
  have h3 := length_putF e z (putF g u (putF f v []))
  have h4 := length_putF d y (putF e z (putF g u (putF f v [])))
  simp only [List.length_nil] at h1
  omega
def sp_moment (K : PySem.W.Frag) (mg : Str → Option Value) : Sp := fun vs H Q _ => ∃ (x dx c h : Addr) (p : Int) (n : Nat), vs = [.ref x, .int p, .int (n : Int), .ref c, .ref h] ∧ H x = some (.ins (adr mg "Moment") dx []) ∧
  ∀ H', (∀ a o, H a = some o → a ≠ x → H' a = some o) → H' x = some (.ins (adr mg "Moment") dx (momF p n c h)) → Q .non H'
theorem ok_Moment___init__ (T : Top K mg) : OkM P w K mg base 1 "Moment" "__init__" ["self", "p", "n", "called", "hands"] [] (sp_moment K mg) := by
  refine T.d_Moment___init__.ok sc_Moment___init__ (fun vs H Q E h => ?_) (fun f cdv A outer s H vs Q E hr h => ?_)
  · obtain ⟨x, dx, c, h, p, n, rfl, _⟩ := h
    rfl
  · obtain ⟨x, dx, c, hh, p, n, rfl, hx, q⟩ := h
    refine ⟨_, ((pss_cons (ps_fld (pv 0) (pv 1) (by rfl))
      (pss_cons (ps_fld (pv 0) (pv 2) (by rfl))
      (pss_cons (ps_fld (pv 0) (pv 3) (by rfl))
      (pss_one (ps_fld (pv 0) (pv 4) (by rfl))))))), ?_⟩
    refine ⟨.int p, rfl, .ref x, rfl, x, _, dx, _, rfl, hx, T.k_Moment.cl, T.na_Moment_p, by decide, ?_⟩
    refine ⟨.int n, rfl, .ref x, rfl, x, _, dx, _, rfl, upd_same, T.k_Moment.cl, T.na_Moment_n, lp1, ?_⟩
    refine ⟨.ref c, rfl, .ref x, rfl, x, _, dx, _, rfl, upd_same, T.k_Moment.cl, T.na_Moment_called, lp2, ?_⟩
    refine ⟨.ref hh, rfl, .ref x, rfl, x, _, dx, _, rfl, upd_same, T.k_Moment.cl, T.na_Moment_hands, lp3, ?_⟩
    refine q _ (fun a o e ne => ?_) upd_same
    rw [upd_ne ne, upd_ne ne, upd_ne ne, upd_ne ne]
    exact e
/-- a moment newly made -/
theorem mom_made {H H2 : Hp} {x dx c h : Addr} {m : Mom} (nx : H x = none) (ndx : H dx = none) (hc : RowsAt K H c m.called) (hh : Dp K H (.ref h) (.tuple (m.hands.map handD)))
    (k : ∀ a o, (upd (upd H dx (.own x)) x (.ins (adr mg "Moment") dx [])) a = some o → a ≠ x → H2 a = some o) (e : H2 x = some (.ins (adr mg "Moment") dx (momF m.p m.n c h))) : Same H H2 ∧ MomAt K mg H2 x m := by
  have s : Same H H2 := fun b o e => by
    have nb : b ≠ x := fun z => by rw [z, nx] at e; cases e
    have nd : b ≠ dx := fun z => by rw [z, ndx] at e; cases e
    refine k b o ?_ nb
    rw [upd_ne nb, upd_ne nd]
    exact e
  exact ⟨s, dx, c, h, e, RowsAt.same s hc, dp_same s _ _ hh⟩
theorem mom_hands {H : Hp} {h : Addr} {hs : List (Str × List (List Int))} (d : Dp K H (.ref h) (.tuple (hs.map handD))) : ∃ wg, SqT K H h wg ∧ DpAll K H wg (hs.map handD) ∧ wg.length = hs.length := by
  cases d with
  | tup a b =>
    have := dpAll_len b
    rw [List.length_map] at this
    exact ⟨_, a, b, this⟩
def sp_names_at (K : PySem.W.Frag) (mg : Str → Option Value) : Sp := fun vs H Q _ => ∃ (a : Addr) (m : Mom), vs = [.ref a] ∧ MomAt K mg H a m ∧ m.hands.length ≤ 100 ∧ ∀ H' l, Same H H' → SqT K H' l ((m.hands.map Prod.fst).map V.str) → Q (.ref l) H'
theorem ok_names_at (T : Top K mg) : Ok P w K mg base 1 "names_at" ["moment"] (sp_names_at K mg) := by
  refine T.d_names_at.ok sc_names_at (fun vs H Q E h => ?_) (fun f cdv A outer s H vs Q E hr h => ?_)
  · obtain ⟨a, m, rfl, _⟩ := h
    rfl
  · obtain ⟨a, m, rfl, ⟨dx, c, h, ea, hc, hh⟩, lm, q⟩ := h
    refine ⟨_, ((pss_one (ps_ret (pe_callTy call_tuple_of (by rfl) T.b_tuple (by decide +kernel) (pa_cons (pe_lc (own := [("name", 1), ("rows", 2)]) (g := gTup K 2 (gCons (gName 1) (gCons (gName 2) gNil))) (by rfl) sc_names_at.nd (pi_tup (pe_fld (pv 0) (by rfl))) (blkOk_by (own := [("name", 1), ("rows", 2)]) (N := N_names_at) (sc := defScope s_names_at) (by decide +kernel)) (fun _ _ _ _ _ => (pg_tup (by rfl) (pgs_cons (pg_name (i := 1) sc_names_at.nd rfl (.inl rfl)) (pgs_cons (pg_name (i := 2) sc_names_at.nd rfl (.inl rfl)) pgs_nil)))) (fun _ _ _ _ _ => pts_nil) (fun _ _ _ _ _ => (pv 1))) pa_nil))))), ?_⟩
    obtain ⟨wg, hg, dg, lg⟩ := mom_hands hh
    refine ⟨.ref a, rfl, a, _, dx, _, _, rfl, ea, T.k_Moment.cl, T.na_Moment_hands, momF_hands, h, rfl, ⟨_, hg⟩, fun D nD => lc_it (walk_tup (K := K) (a := h) (xs := wg)) (fun i H' => Same H H' ∧ H' D = some (.lst (((m.hands.take i).map Prod.fst).map V.str))) ⟨same_upd nD, upd_same⟩ (fun i H' _ hP => Same.tup hP.1 hg) (fun i x Ha Hb hi hP hY => ?_) (fun H3 hP => ?_)⟩
    · obtain ⟨rfl, hx⟩ := hY
      obtain ⟨s1, eD⟩ := hP
      obtain ⟨c', r, x, rfl, gx, mx, hc', hrr⟩ := dpAll_hand (dpAll_same s1 _ _ dg) hx
      refine ⟨c', _, rfl, hc', rfl, _, _, rfl, _, _, rfl, rfl, rfl, .str x.1, rfl, _, eD, ?_, same_mut s1 nD, ?_⟩
      · rw [List.length_map, List.length_map, List.length_take]
        exact small1000 (by omega)
      · rw [upd_same, List.take_add_one, gx, List.map_append, List.map_append]
        rfl
    · obtain ⟨s3, eD⟩ := hP
      rw [List.take_of_length_le (by omega)] at eD
      exact ⟨D, _, rfl, .inl ⟨.inl (.inl eD), fun l nl => q _ l (s3.trans (same_upd nl)) (.inl (.inl upd_same))⟩⟩
def sp_heard_at (K : PySem.W.Frag) (mg : Str → Option Value) : Sp := fun vs H Q _ => ∃ (a b : Addr) (m : Mom) (ns : List Str), vs = [.ref a, .ref b] ∧ MomAt K mg H a m ∧ SqT K H b (ns.map V.str) ∧ m.hands.length ≤ 9 ∧ (∀ h ∈ m.hands, h.2.length ≤ 1000) ∧
  ∀ H' l, Same H H' → RowsAt K H' l (heardM m ns) → Q (.ref l) H'
theorem ok_heard_at (T : Top K mg) : Ok P w K mg base 1 "heard_at" ["moment", "names"] (sp_heard_at K mg) := by
  refine T.d_heard_at.ok sc_heard_at (fun vs H Q E h => ?_) (fun f cdv A outer s H vs Q E hr h => ?_)
  · obtain ⟨a, b, m, ns, rfl, _⟩ := h
    rfl
  · obtain ⟨a, b, m, ns, rfl, ⟨dx, c, h, ea, hc, hh⟩, hb, lm, lh, q⟩ := h
    refine ⟨_, ((pss_cons (ps_if (pt_cmpR op_eq (pe_callB call_len_seq (by rfl) T.b_len (by decide +kernel) (pa_cons (pv 1) pa_nil)) pe_int (nomark _))
        (pss_one (ps_ret (pe_fld (pv 0) (by rfl))))
        pss_nil)
      (pss_cons (ps_set (i := 2) sc_heard_at.nd rfl (.inl rfl) (pe_lst pa_nil))
      (pss_cons (ps_for PassesOwn.never (by rfl) (pi_tup (pe_fld (pv 0) (by rfl))) (pg_tup (by rfl) (pgs_cons (pg_name (i := 3) sc_heard_at.nd rfl (.inl rfl)) (pgs_cons (pg_name (i := 4) sc_heard_at.nd rfl (.inl rfl)) pgs_nil)))
        (pss_one (ps_if (pt_cmpR op_in_seq (pv 3) (pv 1) (by rfl))
          (pss_one (ps_expr (pe_bm PySem.F.plainAttrs_list PySem.F.slot_list_extend PySem.F.type_list_extend mt_extT (pv 2) (pa_cons (pv 4) pa_nil))))
          pss_nil)))
      (pss_one (ps_ret (pe_callTy call_tuple_of (by rfl) T.b_tuple (by decide +kernel) (pa_cons (pv 2) pa_nil)))))))), ?_⟩
    obtain ⟨wg, hg, dg, lg⟩ := mom_hands hh
    refine ⟨.ref b, rfl, b, _, rfl, .inr hb, rfl, _, rfl, ?_⟩
    by_cases hn : ns = []
    · subst hn
      refine iteT ⟨.ref a, rfl, a, _, dx, _, _, rfl, ea, T.k_Moment.cl, T.na_Moment_called, momF_called, ?_⟩
      exact q H c (Same.refl H) hc
    · have ne : ¬ (V.int ((ns.map V.str).length : Int) = V.int 0) := fun z => by
        injection z with z
        rw [List.length_map] at z
        cases ns with
        | nil => exact hn rfl
        | cons x r => simp at z; omega
      rw [decide_eq_false ne]
      refine iteF ⟨Nat.zero_le _, fun L nL => ?_⟩
      generalize h1 : upd H L _ = H1
      obtain ⟨s1, e1⟩ := new_of h1 nL
      refine ⟨.ref a, rfl, a, _, dx, _, _, rfl, s1 _ _ ea, T.k_Moment.cl, T.na_Moment_hands, momF_hands, h, rfl, ⟨_, Same.tup s1 hg⟩, for_it (walk_tup (K := K) (a := h) (xs := wg)) (fun i σ H' => Same H H' ∧ ∃ (ws : List V) (y3 y4 : Option V), H' L = some (.lst ws) ∧ DpAll K H' ws ((selR ns (m.hands.take i)).map rowD) ∧ σ = [some (.ref a), some (.ref b), some (.ref L), y3, y4]) ⟨s1, [], none, none, e1, .nil, rfl⟩ (fun i σ H' _ hW => Same.tup hW.1 hg) (fun i x σ H2 H3 hi hW hY => ?_) (fun σ H2 hW => ?_)⟩
      · obtain ⟨rfl, hx⟩ := hY
        obtain ⟨s2, ws, y3, y4, eL, dl, rfl⟩ := hW
        obtain ⟨c', r, x, rfl, gx, mx, hc', hrr⟩ := dpAll_hand (dpAll_same s2 _ _ dg) hx
        refine ⟨c', _, rfl, hc', rfl, _, _, rfl, _, _, rfl, rfl, ?_⟩
        refine ⟨.str x.1, rfl, .ref b, rfl, b, _, rfl, .inr (Same.tup s2 hb), rfl, flat_strs ns, _, rfl, ?_⟩
        rw [show (if false = true then !inV (V.str x.1) (ns.map V.str) else inV (V.str x.1) (ns.map V.str)) = decide (x.1 ∈ ns) from in_strs x.1 ns]
        have st := sel_take (ns := ns) gx
        by_cases hn : x.1 ∈ ns
        · rw [decide_eq_true hn]
          rw [if_pos hn] at st
          obtain ⟨w2, hr1, hr2⟩ := hrr
          have l1 := rows_len dl
          have l2 := rows_len hr2
          have ls := sel_len (ns := ns) (B := 1000) (hs := m.hands.take i) (fun y hy => lh y (List.mem_of_mem_take hy))
          have ls9 : (selR ns (m.hands.take i)).length ≤ 1000 * 9 := Nat.le_trans ls (Nat.mul_le_mul_left 1000 (by rw [List.length_take]; omega))
          have lx := lh x mx
          have tk := (Tk.refl H3).mut eL (ys := ws ++ w2)
          refine iteT ⟨.ref L, rfl, .inl ⟨rfl, _, .inl (.inl eL)⟩, .ref r, rfl, L, r, ws, w2, rfl, rfl, eL, hr1, Nat.le_trans (show ws.length + w2.length ≤ 10000 by omega) (by decide), ?_⟩
          refine ⟨same_mut s2 nL, ws ++ w2, _, _, upd_same, ?_, rfl⟩
          rw [st, List.map_append]
          exact dpAll_append (dpAll_tk tk _ _ (noL_rows _) dl) (dpAll_tk tk _ _ (noL_rows _) hr2)
        · rw [decide_eq_false hn]
          rw [if_neg hn, List.append_nil] at st
          exact iteF ⟨s2, ws, _, _, eL, by rw [st]; exact dl, rfl⟩
      · obtain ⟨s2, ws, y3, y4, eL, dl, rfl⟩ := hW
        rw [List.take_of_length_le (by omega)] at dl
        refine ⟨.ref L, rfl, L, _, rfl, .inl ⟨.inl (.inl eL), fun l nl => ?_⟩⟩
        have s3 : Same H2 (upd H2 l (.tup ws)) := same_upd nl
        refine q _ l (s2.trans s3) ?_
        unfold heardM
        rw [if_neg hn]
        exact ⟨ws, .inl (.inl upd_same), dpAll_same s3 _ _ dl⟩
def sp_known_at (K : PySem.W.Frag) (mg : Str → Option Value) : Sp := fun vs H Q _ => ∃ (a b : Addr) (m : Mom) (ns : List Str), vs = [.ref a, .ref b] ∧ MomAt K mg H a m ∧ SqT K H b (ns.map V.str) ∧ MomOk 1000 m ∧
  ∀ H' l, Same H H' → RowsAt K H' l (plainR m.p m.n (heardM m ns)) → Q (.ref l) H'
theorem heard_ok {B : Nat} {m : Mom} (M : MomOk B m) (ns : List Str) : RowsOk m.p m.n (heardM m ns) := by
  unfold heardM
  split
  · exact M.okc
  · intro r hr
    obtain ⟨h, mh, hr⟩ := List.mem_flatMap.mp hr
    split at hr
    · exact M.okh h mh r hr
    · cases hr
theorem ok_known_at (T : Top K mg) : Ok P w K mg base 6 "known_at" ["moment", "names"] (sp_known_at K mg) := by
  have O_heard_at := ok_heard_at (P := P) (w := w) (base := base) T
  have O_room_of := ok_room_of (P := P) (w := w) (base := base) T
  refine T.d_known_at.ok sc_known_at (fun vs H Q E h => ?_) (fun f cdv A outer s H vs Q E hr h => ?_)
  · obtain ⟨a, b, m, ns, rfl, _⟩ := h
    rfl
  · obtain ⟨a, b, m, ns, rfl, ma, hb, M, q⟩ := h
    obtain ⟨dx, c, h, ea, hc, hh⟩ := id ma
    refine ⟨_, ((pss_one (ps_ret (pe_callO O_room_of (hr.mono (by omega)) (by rfl) (pa_cons (pe_fld (pv 0) (by rfl)) (pa_cons (pe_fld (pv 0) (by rfl)) (pa_cons (pe_callO O_heard_at (hr.mono (by omega)) (by rfl) (pa_cons (pv 0) (pa_cons (pv 1) pa_nil))) pa_nil))))))), ?_⟩
    refine ⟨.ref a, rfl, a, _, dx, _, _, rfl, ea, T.k_Moment.cl, T.na_Moment_p, momF_p, .ref a, rfl, a, _, dx, _, _, rfl, ea, T.k_Moment.cl, T.na_Moment_n, momF_n, ?_⟩
    refine ⟨.ref a, rfl, .ref b, rfl, a, b, m, ns, rfl, ma, hb, Nat.le_trans M.many (by decide), M.lh, fun H1 l s1 r1 => ?_⟩
    have n8 := M.n8
    exact ⟨l, heardM m ns, m.p, m.n, rfl, r1, heard_ok M ns, M.fld, M.n1, by omega, M.p1, fun H2 l2 s2 r2 => q H2 l2 (s1.trans s2) r2⟩
def sp_stand_at (K : PySem.W.Frag) (mg : Str → Option Value) : Sp := fun vs H Q _ => ∃ (a : Addr) (m : Mom), vs = [.ref a] ∧ MomAt K mg H a m ∧ MomOk 1000 m ∧ ∀ H' l, Same H H' → Dp K H' (.ref l) (standM m) → Q (.ref l) H'
theorem heard_one {B : Nat} {m : Mom} (M : MomOk B m) {h : Str × List (List Int)} (mh : h ∈ m.hands) : heardM m [h.1] = h.2 := by
  unfold heardM
  rw [if_neg (by simp)]
  exact sel_one M.nd mh
theorem ok_stand_at (T : Top K mg) : Ok P w K mg base 7 "stand_at" ["moment"] (sp_stand_at K mg) := by
  have O_names_at := ok_names_at (P := P) (w := w) (base := base) T
  have O_known_at := ok_known_at (P := P) (w := w) (base := base) T
  refine T.d_stand_at.ok sc_stand_at (fun vs H Q E h => ?_) (fun f cdv A outer s H vs Q E hr h => ?_)
  · obtain ⟨a, m, rfl, _⟩ := h
    rfl
  · obtain ⟨a, m, rfl, ma, M, q⟩ := h
    obtain ⟨dx, c, h, ea, hc, hh⟩ := id ma
    refine ⟨_, ((pss_cons (ps_set (i := 2) sc_stand_at.nd rfl (.inl rfl) (pe_callTy call_tuple_of (by rfl) T.b_tuple (by decide +kernel) (pa_cons (pe_lc (own := [("name", 1)]) (g := gName 1) (by rfl) sc_stand_at.nd (pi_tup (pe_callO O_names_at (hr.mono (by omega)) (by rfl) (pa_cons (pv 0) pa_nil))) (blkOk_by (own := [("name", 1)]) (N := N_stand_at) (sc := defScope s_stand_at) (by decide +kernel)) (fun _ _ _ _ _ => (pg_name (i := 1) sc_stand_at.nd rfl (.inl rfl))) (fun _ _ _ _ _ => pts_nil) (fun _ _ _ _ _ => (pe_tup (pa_cons (pv 1) (pa_cons (pe_callO O_known_at (hr.mono (by omega)) (by rfl) (pa_cons (pv 0) (pa_cons (pe_tup (pa_cons (pv 1) pa_nil)) pa_nil))) pa_nil))))) pa_nil)))
      (pss_one (ps_ret (pe_tup (pa_cons (pe_fld (pv 0) (by rfl)) (pa_cons (pe_fld (pv 0) (by rfl)) (pa_cons (pe_callO O_known_at (hr.mono (by omega)) (by rfl) (pa_cons (pv 0) (pa_cons (pe_tup pa_nil) pa_nil))) (pa_cons (pv 2) pa_nil))))))))), ?_⟩
    have many := M.many
    refine ⟨.ref a, rfl, a, m, rfl, ma, by omega, fun H1 l s1 h1 => ?_⟩
    refine ⟨l, rfl, ⟨_, h1⟩, fun D nD => lc_it (walk_tup (K := K) (a := l) (xs := (m.hands.map Prod.fst).map V.str)) (fun i H' => Same H1 H' ∧ ∃ ws : List V, H' D = some (.lst ws) ∧ ws.length = i ∧ DpAll K H' ws ((m.roomsM.take i).map handD)) ⟨same_upd nD, [], upd_same, rfl, .nil⟩ (fun i H' _ hP => Same.tup hP.1 h1) (fun i x Ha Hb hi hP hY => ?_) (fun H2 hP => ?_)⟩
    · obtain ⟨rfl, hx⟩ := hY
      obtain ⟨s2, ws, eD, lw, dl⟩ := hP
      rw [List.getElem?_map, List.getElem?_map] at hx
      obtain ⟨nm, hnm, rfl⟩ := Option.map_eq_some_iff.mp hx
      obtain ⟨hd, ghd, rfl⟩ := Option.map_eq_some_iff.mp hnm
      have mhd := List.mem_of_getElem? ghd
      have hi : i < m.hands.length := (List.getElem?_eq_some_iff.mp ghd).1
      refine ⟨rfl, .str hd.1, rfl, .ref a, rfl, .str hd.1, rfl, sz1000 (by decide : (1 : Nat) ≤ 1000), fun o no => ?_⟩
      generalize h3 : upd _ o _ = H3
      obtain ⟨s3, e3⟩ := new_of h3 no
      have s13 := s1.trans (s2.trans s3)
      refine ⟨a, o, m, [hd.1], rfl, ma.same s13, .inl (.inl e3), M, fun H4 l4 s4 r4 => ?_⟩
      rw [heard_one M mhd] at r4
      refine ⟨sz1000 (by decide : (2 : Nat) ≤ 1000), fun o2 no2 => ?_⟩
      generalize h5 : upd H4 o2 _ = H5
      obtain ⟨s5, e5⟩ := new_of h5 no2
      have s35 := s3.trans (s4.trans s5)
      have eD5 := s35 _ _ eD
      have tk := (Tk.refl H5).mut eD5 (ys := ws ++ [.ref o2])
      refine ⟨ws, eD5, small1000 (by omega), same_mut (s2.trans s35) nD, ws ++ [.ref o2], upd_same, by rw [List.length_append, lw]; rfl, ?_⟩
      have gr : m.roomsM[i]? = some (hd.1, plainR m.p m.n hd.2) := by
        unfold Mom.roomsM
        rw [List.getElem?_map, ghd]
        rfl
      rw [List.take_add_one, gr, List.map_append]
      obtain ⟨w4, hw4, dw4⟩ := RowsAt.same s5 r4
      exact dpAll_append (dpAll_tk tk _ _ (noL_hands _) (dpAll_same s35 _ _ dl)) (.cons (.tup (tk _ _ _ (.inl (.inl e5))) (.cons (.str _) (.cons (.tup (tk _ _ _ hw4) (dpAll_tk tk _ _ (noL_rows _) dw4)) .nil))) .nil)
    · obtain ⟨s2, ws, eD, lw, dl⟩ := hP
      have lr : m.roomsM.length = m.hands.length := by unfold Mom.roomsM; rw [List.length_map]
      rw [List.take_of_length_le (by rw [List.length_map, List.length_map]; omega)] at dl
      refine ⟨D, _, rfl, .inl ⟨.inl (.inl eD), fun t nt => ?_⟩⟩
      generalize h3 : upd H2 t _ = H3
      obtain ⟨s3, e3⟩ := new_of h3 nt
      have s13 := s1.trans (s2.trans s3)
      have ea3 := s13 _ _ ea
      refine ⟨.ref a, rfl, a, _, dx, _, _, rfl, ea3, T.k_Moment.cl, T.na_Moment_p, momF_p, .ref a, rfl, a, _, dx, _, _, rfl, ea3, T.k_Moment.cl, T.na_Moment_n, momF_n, ?_⟩
      refine ⟨.ref a, rfl, Nat.zero_le _, fun o no => ?_⟩
      generalize h4 : upd H3 o _ = H4
      obtain ⟨s4, e4⟩ := new_of h4 no
      refine ⟨a, o, m, [], rfl, ma.same (s13.trans s4), .inl (.inl e4), M, fun H5 l5 s5 r5 => ?_⟩
      refine ⟨.ref t, rfl, sz1000 (by decide : (4 : Nat) ≤ 1000), fun z nz => ?_⟩
      generalize h6 : upd H5 z _ = H6
      obtain ⟨s6, e6⟩ := new_of h6 nz
      have s36 := s4.trans (s5.trans s6)
      obtain ⟨w5, hw5, dw5⟩ := RowsAt.same s6 r5
      refine q H6 z (s13.trans s36) (.tup (.inl (.inl e6)) (.cons (.int _) (.cons (.int _) (.cons (.tup hw5 dw5) (.cons (.tup (.inl (.inl (s36 _ _ e3))) (dpAll_same (s3.trans s36) _ _ dl)) .nil)))))
/-- the letters that names are made of -/
def LT : Str := "abcdefghijklmnopqrstuvwxyz"
def okc (c : Nat) : Bool := !(Builtin.Str.occurrences LT ⟨#[c]⟩ 0 LT.length 1).isEmpty
def rInStr : V → V → Hp → VK → Prop := fun x y H Q => ∃ i j, x = .str i ∧ y = .str j ∧ Q (.bl (!(Builtin.Str.occurrences j i 0 j.length 1).isEmpty)) H
def nameB : PyData → Bool
  | .str z => (decide (1 ≤ z.length) && decide (z.length ≤ 8)) && z.cps.toList.all okc
  | _ => false
theorem okc_all : ∀ c ∈ List.range' 97 26, okc c = true := by decide +kernel
theorem nameB_ok {x : Str} (h : NameOk x) : nameB (.str x) = true := by
  simp only [nameB, Bool.and_eq_true, decide_eq_true_eq, List.all_eq_true]
  refine ⟨⟨h.1, h.2.1⟩, fun c hc => ?_⟩
  have := h.2.2 c hc
  exact okc_all c (List.mem_range'_1.mpr ⟨this.1, by omega⟩)
def sp_is_name (K : PySem.W.Frag) : Sp := fun vs H Q _ => ∃ (v : V) (d : PyData) (bad : Addr → Prop), vs = [v] ∧ Rep K H bad v d ∧ (∀ z, d = .str z → z.length ≤ 1000000) ∧ ∀ H', Same H H' → Q (.bl (nameB d)) H'
theorem ok_is_name (T : Top K mg) : Ok P w K mg base 1 "is_name" ["thing"] (sp_is_name K) := by
  refine T.d_is_name.ok sc_is_name (fun vs H Q E h => ?_) (fun f cdv A outer s H vs Q E hr h => ?_)
  · obtain ⟨v, d, bad, rfl, _⟩ := h
    rfl
  · obtain ⟨v, d, bad, rfl, rv, lz, q⟩ := h
    refine ⟨_, ((pss_one (ps_ret (pe_and (pe_callB call_isi (by rfl) T.b_isinstance (by decide +kernel) (pa_cons (pv 0) (pa_cons (pe_bltn (v := .ty "str") (u := .type "str") (by rfl) T.b_str (by decide +kernel) rfl) pa_nil))) (pe_and (pe_chain op_le op_le pe_int (pe_callB call_len_str (by rfl) T.b_len (by decide +kernel) (pa_cons (pv 0) pa_nil)) pe_int) (pe_one (pe_callB (cr_all (by rfl)) (by rfl) T.b_all (by decide +kernel) (pa_cons (pe_lc (own := [("sign", 1)]) (g := gName 1) (by rfl) sc_is_name.nd (pi_str (pv 0)) (blkOk_by (own := [("sign", 1)]) (N := N_is_name) (sc := defScope s_is_name) (by decide +kernel)) (fun _ _ _ _ _ => (pg_name (i := 1) sc_is_name.nd rfl (.inl rfl))) (fun _ _ _ _ _ => pts_nil) (fun _ _ _ _ _ => (pe_cmpR (show OpR _ (compareOp .In) rInStr from op_in_str) (pv 1) (pe_cstr T.c_LETTERS (by rfl)) (by rfl)))) pa_nil)))))))), ?_⟩
    refine ⟨v, rfl, v, .ty "str", _, _, _, rfl, .ty "str", rv.kd, kit_str _, _, rfl, ?_⟩
    by_cases hk : kdOf d = .str
    · obtain ⟨z, rfl⟩ : ∃ z, d = .str z := by cases d <;> first | exact ⟨_, rfl⟩ | cases hk
      cases rv
      have lz := lz z rfl
      rw [decide_eq_true hk]
      refine iteT ⟨.str z, rfl, z, rfl, Nat.le_trans lz (by decide), ?_⟩
      refine ⟨1, _, rfl, rfl, _, rfl, ?_⟩
      by_cases h1 : 1 ≤ z.length
      · rw [decide_eq_true (show (1 : Int) ≤ (z.length : Int) by omega)]
        refine iteT ⟨_, 8, rfl, rfl, _, rfl, ?_⟩
        by_cases h8 : z.length ≤ 8
        · rw [decide_eq_true (show (z.length : Int) ≤ 8 by omega)]
          have ls : z.cps.size ≤ 8 := h8
          refine iteT ⟨.str z, rfl, z, rfl, fun D nD => lc_it (walk_str (z := z)) (fun i H' => Same H H' ∧ H' D = some (.lst (((z.cps.toList.take i).map okc).map V.bl))) ⟨same_upd nD, upd_same⟩ (fun i H' _ hP => trivial) (fun i x Ha Hb hi hP hY => ?_) (fun H3 hP => ?_)⟩
          · obtain ⟨rfl, c, hc, rfl⟩ := hY
            obtain ⟨s1, eD⟩ := hP
            refine ⟨rfl, .str ⟨#[c]⟩, rfl, ⟨#[c]⟩, LT, rfl, rfl, _, eD, ?_, same_mut s1 nD, ?_⟩
            · rw [List.length_map, List.length_map, List.length_take]
              exact small1000 (by omega)
            · have g : z.cps.toList[i]? = some c := by rw [Array.getElem?_toList]; exact hc
              rw [upd_same, List.take_add_one, g, List.map_append, List.map_append]
              rfl
          · obtain ⟨s3, eD⟩ := hP
            rw [List.take_of_length_le (by simp)] at eD
            refine ⟨D, _, rfl, .inl (.inl eD), ?_⟩
            have := q H3 s3
            simp only [nameB] at this
            rw [decide_eq_true h1, decide_eq_true h8, Bool.true_and, Bool.true_and] at this
            rw [List.all_map]
            exact this
        · rw [decide_eq_false (show ¬ (z.length : Int) ≤ 8 by omega)]
          refine iteF ?_
          have := q H (Same.refl H)
          simp only [nameB] at this
          rw [decide_eq_false h8, Bool.and_false, Bool.false_and] at this
          exact this
      · rw [decide_eq_false (show ¬ (1 : Int) ≤ (z.length : Int) by omega)]
        refine iteF ⟨_, rfl, iteF ?_⟩
        have := q H (Same.refl H)
        simp only [nameB] at this
        rw [decide_eq_false h1, Bool.false_and, Bool.false_and] at this
        exact this
    · rw [decide_eq_false hk]
      refine iteF ?_
      have e : nameB d = false := by
        cases d <;> first | rfl | exact absurd rfl hk
      rw [e] at q
      exact q H (Same.refl H)
def sp_check_rowB (K : PySem.W.Frag) : Sp := fun vs H Q _ => ∃ (a : Addr) (r : List Int) (p : Int) (n : Nat), vs = [.int p, .int (n : Int), .ref a] ∧ SqT K H a (r.map V.int) ∧ RowsOk p n [r] ∧ r.length ≤ 1000 ∧ ∀ H', Same H H' → Q .non H'
theorem ok_check_rowB (T : Top K mg) : Ok P w K mg base 4 "check_row" ["p", "n", "row"] (sp_check_rowB K) := by
  have O_is_row := ok_is_row (P := P) (w := w) (base := base) T
  refine T.d_check_row.ok sc_check_row (fun vs H Q E h => ?_) (fun f cdv A outer s H vs Q E hr h => ?_)
  · obtain ⟨a, r, p, n, rfl, _⟩ := h
    rfl
  · obtain ⟨a, r, p, n, rfl, ha, ok, ln, q⟩ := h
    refine ⟨_, ((pss_one (ps_if (pt_not (pt_val (pe_callO O_is_row (hr.mono (by omega)) (by rfl) (pa_cons (pv 0) (pa_cons (pv 1) (pa_cons (pv 2) pa_nil))))))
        (pss_one ps_dead)
        pss_nil))), ?_⟩
    have lr := (ok r List.mem_cons_self).1
    refine ⟨.int p, rfl, .int n, rfl, .ref a, rfl, p, n, .ref a, rowD r, rfl, row_rep ha, ?_, fun H1 s1 => ⟨_, rfl, ?_⟩⟩
    · show (r.map PyData.int).length ≤ 1000
      rw [List.length_map]
      exact ln
    · rw [isRow_row (ok r List.mem_cons_self)]
      exact iteF (q H1 s1)
def sp_check_handB (K : PySem.W.Frag) : Sp := fun vs H Q _ => ∃ (b : Addr) (x : Str) (ns : List Str), vs = [.ref b, .str x] ∧ SqT K H b (ns.map V.str) ∧ x ∈ ns ∧ Q .non H
theorem ok_check_handB (T : Top K mg) : Ok P w K mg base 1 "check_hand" ["there", "hand"] (sp_check_handB K) := by
  refine T.d_check_hand.ok sc_check_hand (fun vs H Q E h => ?_) (fun f cdv A outer s H vs Q E hr h => ?_)
  · obtain ⟨b, x, ns, rfl, _⟩ := h
    rfl
  · obtain ⟨b, x, ns, rfl, hb, mx, q⟩ := h
    refine ⟨_, ((pss_one (ps_if (pt_cmpR op_notIn_seq (pv 1) (pv 0) (by rfl))
        (pss_one ps_dead)
        pss_nil))), ?_⟩
    refine ⟨.str x, rfl, .ref b, rfl, b, _, rfl, .inr hb, rfl, flat_strs ns, _, rfl, ?_⟩
    rw [show (if true = true then !inV (V.str x) (ns.map V.str) else inV (V.str x) (ns.map V.str)) = !decide (x ∈ ns) from congrArg (fun z => !z) (in_strs x ns), decide_eq_true mx]
    exact iteF q
theorem alike_names (ns : List Str) : W.AllAlike (ns.map PyData.str) := fun d hd d' hd' => by
  obtain ⟨x, _, rfl⟩ := List.mem_map.mp hd
  obtain ⟨y, _, rfl⟩ := List.mem_map.mp hd'
  rfl
def sp_are_names (K : PySem.W.Frag) : Sp := fun vs H Q _ => ∃ (b : Addr) (ns : List Str), vs = [.ref b] ∧ SqT K H b (ns.map V.str) ∧ (∀ x ∈ ns, NameOk x) ∧ ns.Pairwise sl ∧ ns.length ≤ 100 ∧ ∀ H', Same H H' → Q (.bl true) H'
theorem ok_are_names (T : Top K mg) : Ok P w K mg base 2 "are_names" ["thing"] (sp_are_names K) := by
  have O_is_name := ok_is_name (P := P) (w := w) (base := base) T
  have O_is_rising := ok_is_rising (P := P) (w := w) (base := base) T
  refine T.d_are_names.ok sc_are_names (fun vs H Q E h => ?_) (fun f cdv A outer s H vs Q E hr h => ?_)
  · obtain ⟨b, ns, rfl, _⟩ := h
    rfl
  · obtain ⟨b, ns, rfl, hb, nm, srt, l1, q⟩ := h
    refine ⟨_, ((pss_one (ps_ret (pe_and (pe_callB call_isi (by rfl) T.b_isinstance (by decide +kernel) (pa_cons (pv 0) (pa_cons (pe_bltn (v := .ty "tuple") (u := .type "tuple") (by rfl) T.b_tuple (by decide +kernel) rfl) pa_nil))) (pe_and (pe_callB (cr_all (by rfl)) (by rfl) T.b_all (by decide +kernel) (pa_cons (pe_lc (own := [("part", 1)]) (g := gName 1) (by rfl) sc_are_names.nd (pi_tup (pv 0)) (blkOk_by (own := [("part", 1)]) (N := N_are_names) (sc := defScope s_are_names) (by decide +kernel)) (fun _ _ _ _ _ => (pg_name (i := 1) sc_are_names.nd rfl (.inl rfl))) (fun _ _ _ _ _ => pts_nil) (fun _ _ _ _ _ => (pe_callO O_is_name (hr.mono (by omega)) (by rfl) (pa_cons (pv 1) pa_nil)))) pa_nil)) (pe_one (pe_callO O_is_rising (hr.mono (by omega)) (by rfl) (pa_cons (pv 0) pa_nil)))))))), ?_⟩
    refine ⟨.ref b, rfl, .ref b, .ty "tuple", _, _, _, rfl, .ty "tuple", kd_tup hb, kit_tuple _, _, rfl, iteT ?_⟩
    refine ⟨.ref b, rfl, b, rfl, ⟨_, hb⟩, fun D nD => lc_it (walk_tup (K := K) (a := b) (xs := ns.map V.str)) (fun i H' => Same H H' ∧ H' D = some (.lst ((List.replicate i true).map V.bl))) ⟨same_upd nD, upd_same⟩ (fun i H' _ hP => Same.tup hP.1 hb) (fun i x Ha Hb hi hP hY => ?_) (fun H3 hP => ?_)⟩
    · obtain ⟨rfl, hx⟩ := hY
      obtain ⟨s1, eD⟩ := hP
      rw [List.getElem?_map] at hx
      obtain ⟨x, gx, rfl⟩ := Option.map_eq_some_iff.mp hx
      have hi : i < ns.length := (List.getElem?_eq_some_iff.mp gx).1
      have nmx := nm x (List.mem_of_getElem? gx)
      refine ⟨rfl, .str x, rfl, .str x, .str x, NB, rfl, .str x, fun z hz => by injection hz with hz; rw [← hz]; exact Nat.le_trans nmx.2.1 (by decide), fun H4 s4 => ?_⟩
      rw [nameB_ok nmx]
      refine ⟨_, s4 _ _ eD, ?_, same_mut (s1.trans s4) nD, ?_⟩
      · rw [List.length_map, List.length_replicate]
        exact small1000 (by omega)
      · rw [upd_same, List.replicate_succ', List.map_append]
        rfl
    · obtain ⟨s3, eD⟩ := hP
      refine ⟨D, _, rfl, .inl (.inl eD), true, by simp, iteT ?_⟩
      refine ⟨.ref b, rfl, b, _, ns.map PyData.str, rfl, Same.tup s3 hb, dpAll_strs ns, alike_names ns, fun d hd => ?_, by rw [List.length_map]; omega, fun H4 s4 => ?_⟩
      · obtain ⟨x, _, rfl⟩ := List.mem_map.mp hd
        exact ⟨fun z => (nomatch z), by simp only [PyData.depth]; omega⟩
      · rw [(ris_strs ns).mpr srt]
        exact q H4 (s3.trans s4)
def sp_check_hands (K : PySem.W.Frag) : Sp := fun vs H Q _ => ∃ (a b : Addr) (ns ms : List Str) (k : Int), vs = [.ref a, .ref b, .int k] ∧ SqT K H a (ns.map V.str) ∧ SqT K H b (ms.map V.str) ∧ (∀ x ∈ ms, NameOk x) ∧ ms.Pairwise sl ∧ ms.length ≤ 100 ∧ k ≤ ms.length ∧ (∀ x ∈ ms, x ∈ ns) ∧ ∀ H', Same H H' → Q .non H'
theorem ok_check_hands (T : Top K mg) : Ok P w K mg base 3 "check_hands" ["there", "hands", "least"] (sp_check_hands K) := by
  have O_are_names := ok_are_names (P := P) (w := w) (base := base) T
  have O_check_hand := ok_check_handB (P := P) (w := w) (base := base) T
  refine T.d_check_hands.ok sc_check_hands (fun vs H Q E h => ?_) (fun f cdv A outer s H vs Q E hr h => ?_)
  · obtain ⟨a, b, ns, ms, k, rfl, _⟩ := h
    rfl
  · obtain ⟨a, b, ns, ms, k, rfl, ha, hb, nm, srt, l1, lk, inn, q⟩ := h
    refine ⟨_, ((pss_cons (ps_if (PW.pt (pw_or (pt_not (pt_val (pe_callO O_are_names (hr.mono (by omega)) (by rfl) (pa_cons (pv 1) pa_nil)))) (pw_or1 (pt_cmpR op_lt (pe_callB call_len_seq (by rfl) T.b_len (by decide +kernel) (pa_cons (pv 1) pa_nil)) (pv 2) (nomark _)))))
        (pss_one ps_dead)
        pss_nil)
      (pss_one (ps_for PassesOwn.never (by rfl) (pi_tup (pv 1)) (pg_name (i := 3) sc_check_hands.nd rfl (.inl rfl))
        (pss_one (ps_expr (pe_callO O_check_hand (hr.mono (by omega)) (by rfl) (pa_cons (pv 0) (pa_cons (pv 3) pa_nil))))))))), ?_⟩
    refine ⟨.ref b, rfl, b, ms, rfl, hb, nm, srt, l1, fun H1 s1 => ⟨_, rfl, iteF ?_⟩⟩
    have hb1 := Same.tup s1 hb
    refine ⟨.ref b, rfl, b, _, rfl, .inr hb1, .int k, rfl, _, _, rfl, rfl, _, rfl, ?_⟩
    rw [decide_eq_false (show ¬ (((ms.map V.str).length : Int) < k) by rw [List.length_map]; omega)]
    refine iteF ⟨.ref b, rfl, b, rfl, ⟨_, hb1⟩, for_it (walk_tup (K := K) (a := b) (xs := ms.map V.str)) (fun i σ H' => Same H H' ∧ ∃ y3 : Option V, σ = [some (.ref a), some (.ref b), some (.int k), y3]) ⟨s1, none, rfl⟩ (fun i σ H' _ hW => Same.tup hW.1 hb) (fun i x σ H2 H3 hi hW hY => ?_) (fun σ H2 hW => ?_)⟩
    · obtain ⟨rfl, hx⟩ := hY
      obtain ⟨s2, y3, rfl⟩ := hW
      rw [List.getElem?_map] at hx
      obtain ⟨x, gx, rfl⟩ := Option.map_eq_some_iff.mp hx
      exact ⟨.ref a, rfl, .str x, rfl, a, x, ns, rfl, Same.tup s2 ha, inn x (List.mem_of_getElem? gx), s2, _, rfl⟩
    · obtain ⟨s2, y3, rfl⟩ := hW
      exact q _ s2
/-- behind a call, behind a whisper -/
def callM (m : Mom) (r : List Int) : Mom := { m with called := m.called ++ [r], hands := m.hands.map fun h => (h.1, h.2 ++ [r]) }
def whisperM (m : Mom) (ns : List Str) (r : List Int) : Mom := { m with hands := m.hands.map fun h => if h.1 ∈ ns then (h.1, h.2 ++ [r]) else h }
theorem callM_names (m : Mom) (r : List Int) : (callM m r).hands.map Prod.fst = m.hands.map Prod.fst := by
  unfold callM
  rw [List.map_map]
  exact List.map_congr_left fun _ _ => rfl
theorem whisperM_names (m : Mom) (ns : List Str) (r : List Int) : (whisperM m ns r).hands.map Prod.fst = m.hands.map Prod.fst := by
  unfold whisperM
  rw [List.map_map]
  refine List.map_congr_left fun h _ => ?_
  show (if h.1 ∈ ns then (h.1, h.2 ++ [r]) else h).1 = h.1
  split <;> rfl
theorem callM_ok {B : Nat} {m : Mom} {r : List Int} (M : MomOk B m) (ok : RowsOk m.p m.n [r]) : MomOk (B + 1) (callM m r) where
  fld := M.fld
  p1 := M.p1
  n1 := M.n1
  n8 := M.n8
  okc := rowsOk_app M.okc ok
  okh := fun h hh => by
    obtain ⟨x, mx, rfl⟩ := List.mem_map.mp hh
    exact rowsOk_app (M.okh x mx) ok
  inn := fun h hh z hz => by
    obtain ⟨x, mx, rfl⟩ := List.mem_map.mp hh
    rcases List.mem_append.mp hz with hz | hz
    · exact InR.left (M.inn x mx z hz)
    · exact InR.mem (List.mem_append_right _ hz)
  few := by unfold callM; rw [List.length_map]; exact M.few
  many := by unfold callM; rw [List.length_map]; exact M.many
  srt := by rw [callM_names]; exact M.srt
  nd := by rw [callM_names]; exact M.nd
  nm := by rw [callM_names]; exact M.nm
  lc := by
    have := M.lc
    unfold callM
    rw [List.length_append, List.length_singleton]
    omega
  lh := fun h hh => by
    obtain ⟨x, mx, rfl⟩ := List.mem_map.mp hh
    have := M.lh x mx
    rw [List.length_append, List.length_singleton]
    omega
theorem whisperM_ok {B : Nat} {m : Mom} {r : List Int} (ns : List Str) (M : MomOk B m) (ok : RowsOk m.p m.n [r]) : MomOk (B + 1) (whisperM m ns r) where
  fld := M.fld
  p1 := M.p1
  n1 := M.n1
  n8 := M.n8
  okc := M.okc
  okh := fun h hh => by
    obtain ⟨x, mx, rfl⟩ := List.mem_map.mp hh
    show RowsOk m.p m.n (if x.1 ∈ ns then (x.1, x.2 ++ [r]) else x).2
    split
    · exact rowsOk_app (M.okh x mx) ok
    · exact M.okh x mx
  inn := fun h hh z hz => by
    obtain ⟨x, mx, rfl⟩ := List.mem_map.mp hh
    show InR m.p (if x.1 ∈ ns then (x.1, x.2 ++ [r]) else x).2 z
    split
    · exact InR.left (M.inn x mx z hz)
    · exact M.inn x mx z hz
  few := by unfold whisperM; rw [List.length_map]; exact M.few
  many := by unfold whisperM; rw [List.length_map]; exact M.many
  srt := by rw [whisperM_names]; exact M.srt
  nd := by rw [whisperM_names]; exact M.nd
  nm := by rw [whisperM_names]; exact M.nm
  lc := Nat.le_trans M.lc (Nat.le_succ _)
  lh := fun h hh => by
    obtain ⟨x, mx, rfl⟩ := List.mem_map.mp hh
    have := M.lh x mx
    show (if x.1 ∈ ns then (x.1, x.2 ++ [r]) else x).2.length ≤ B + 1
    split
    · show (x.2 ++ [r]).length ≤ B + 1
      rw [List.length_append, List.length_singleton]
      omega
    · omega
/-- the tuple of hands, each changed -/
theorem made_mom {H : Hp} {c h : Addr} {m' : Mom} {Q : VK} (hc : RowsAt K H c m'.called) (hh : Dp K H (.ref h) (.tuple (m'.hands.map handD))) (q : ∀ H' a, Same H H' → MomAt K mg H' a m' → Q (.ref a) H') :
    ∀ x dx, H x = none → H dx = none → dx ≠ x → sp_moment K mg (.ref x :: ([.int m'.p, .int (m'.n : Int), .ref c, .ref h] ++ [])) (upd (upd H dx (.own x)) x (.ins (adr mg "Moment") dx [])) (fun v H2 => v = .non ∧ Q (.ref x) H2) E0 := fun x dx nx ndx ne => by
  refine ⟨x, dx, c, h, m'.p, m'.n, rfl, upd_same, fun H' k e => ⟨rfl, ?_⟩⟩
  obtain ⟨s, at'⟩ := mom_made (m := m') nx ndx hc hh k e
  exact q H' x s at'
def sp_after_call (K : PySem.W.Frag) (mg : Str → Option Value) : Sp := fun vs H Q _ => ∃ (a b : Addr) (x : Str) (r : List Int) (m : Mom), vs = [.ref a, .str x, .ref b] ∧ MomAt K mg H a m ∧ MomOk 900 m ∧ SqT K H b (r.map V.int) ∧ RowsOk m.p m.n [r] ∧ x ∈ m.hands.map Prod.fst ∧ hasR m.p m.n (plainR m.p m.n (heardM m [x])) r = true ∧
  ∀ H' a', Same H H' → MomAt K mg H' a' (callM m r) → Q (.ref a') H'
theorem ok_after_call (T : Top K mg) : Ok P w K mg base 7 "after_call" ["moment", "hand", "row"] (sp_after_call K mg) := by
  have O_check_hand := ok_check_handB (P := P) (w := w) (base := base) T
  have O_names_at := ok_names_at (P := P) (w := w) (base := base) T
  have O_check_row := ok_check_rowB (P := P) (w := w) (base := base) T
  have O_within := ok_within (P := P) (w := w) (base := base) T
  have O_known_at := ok_known_at (P := P) (w := w) (base := base) T
  have O_Moment___init__ := ok_Moment___init__ (P := P) (w := w) (base := base) T
  refine T.d_after_call.ok sc_after_call (fun vs H Q E h => ?_) (fun f cdv A outer s H vs Q E hr h => ?_)
  · obtain ⟨a, b, x, r, m, rfl, _⟩ := h
    rfl
  · obtain ⟨a, b, x, r, m, rfl, ma, M, hb, ok, mx, has, q⟩ := h
    obtain ⟨dx, c, h, ea, hc, hh⟩ := id ma
    refine ⟨_, ((pss_cons (ps_expr (pe_callO O_check_hand (hr.mono (by omega)) (by rfl) (pa_cons (pe_callO O_names_at (hr.mono (by omega)) (by rfl) (pa_cons (pv 0) pa_nil)) (pa_cons (pv 1) pa_nil))))
      (pss_cons (ps_expr (pe_callO O_check_row (hr.mono (by omega)) (by rfl) (pa_cons (pe_fld (pv 0) (by rfl)) (pa_cons (pe_fld (pv 0) (by rfl)) (pa_cons (pv 2) pa_nil)))))
      (pss_cons (ps_if (pt_not (pt_val (pe_callO O_within (hr.mono (by omega)) (by rfl) (pa_cons (pe_fld (pv 0) (by rfl)) (pa_cons (pe_callO O_known_at (hr.mono (by omega)) (by rfl) (pa_cons (pv 0) (pa_cons (pe_tup (pa_cons (pv 1) pa_nil)) pa_nil))) (pa_cons (pv 2) pa_nil))))))
        (pss_one ps_dead)
        pss_nil)
      (pss_cons (ps_set (i := 5) sc_after_call.nd rfl (.inl rfl) (pe_callTy call_tuple_of (by rfl) T.b_tuple (by decide +kernel) (pa_cons (pe_lc (own := [("name", 3), ("rows", 4)]) (g := gTup K 2 (gCons (gName 3) (gCons (gName 4) gNil))) (by rfl) sc_after_call.nd (pi_tup (pe_fld (pv 0) (by rfl))) (blkOk_by (own := [("name", 3), ("rows", 4)]) (N := N_after_call) (sc := defScope s_after_call) (by decide +kernel)) (fun _ _ _ _ _ => (pg_tup (by rfl) (pgs_cons (pg_name (i := 3) sc_after_call.nd rfl (.inl rfl)) (pgs_cons (pg_name (i := 4) sc_after_call.nd rfl (.inl rfl)) pgs_nil)))) (fun _ _ _ _ _ => pts_nil) (fun _ _ _ _ _ => (pe_tup (pa_cons (pv 3) (pa_cons (pe_op (show OpR _ (binaryOp .Add) (rCatB K) from op_catB) (pv 4) (pe_tup (pa_cons (pv 2) pa_nil))) pa_nil))))) pa_nil)))
      (pss_one (ps_ret (pe_makeO O_Moment___init__ T.k_Moment (hr.mono (by omega)) (by rfl) (pa_cons (pe_fld (pv 0) (by rfl)) (pa_cons (pe_fld (pv 0) (by rfl)) (pa_cons (pe_op op_catB (pe_fld (pv 0) (by rfl)) (pe_tup (pa_cons (pv 2) pa_nil))) (pa_cons (pv 5) pa_nil)))))))))))), ?_⟩
    have many := M.many
    have n8 := M.n8
    have M1 := M.mono (show 900 ≤ 1000 by decide)
    have F1 : ∀ {H' : Hp}, Same H H' → H' a = some (.ins (adr mg "Moment") dx (momF m.p m.n c h)) := fun s => s _ _ ea
    refine ⟨.ref a, rfl, a, m, rfl, ma, by omega, fun H1 l1 s1 h1 => ?_⟩
    refine ⟨.str x, rfl, l1, x, _, rfl, h1, mx, ?_⟩
    refine ⟨.ref a, rfl, a, _, dx, _, _, rfl, F1 s1, T.k_Moment.cl, T.na_Moment_p, momF_p, .ref a, rfl, a, _, dx, _, _, rfl, F1 s1, T.k_Moment.cl, T.na_Moment_n, momF_n, .ref b, rfl, ?_⟩
    have lr := (ok r List.mem_cons_self).1
    refine ⟨b, r, m.p, m.n, rfl, Same.tup s1 hb, ok, by omega, fun H2 s2 => ?_⟩
    have s12 := s1.trans s2
    refine ⟨.ref a, rfl, a, _, dx, _, _, rfl, F1 s12, T.k_Moment.cl, T.na_Moment_p, momF_p, .ref a, rfl, .str x, rfl, sz1000 (by decide : (1 : Nat) ≤ 1000), fun o no => ?_⟩
    generalize h3 : upd H2 o _ = H3
    obtain ⟨s3, e3⟩ := new_of h3 no
    refine ⟨a, o, m, [x], rfl, ma.same (s12.trans s3), .inl (.inl e3), M1, fun H4 l4 s4 r4 => ?_⟩
    have s14 := s12.trans (s3.trans s4)
    refine ⟨.ref b, rfl, b, l4, _, r, m.p, m.n, rfl, r4, Same.tup s14 hb, PFR.of_plain M.fld (heard_ok M [x]), ok, M.fld, by omega, M.p1, fun H5 s5 => ⟨_, rfl, ?_⟩⟩
    rw [has]
    refine iteF ?_
    have s15 := s14.trans s5
    obtain ⟨wg, hg, dg, lg⟩ := mom_hands hh
    have hb5 := Same.tup s15 hb
    refine ⟨.ref a, rfl, a, _, dx, _, _, rfl, F1 s15, T.k_Moment.cl, T.na_Moment_hands, momF_hands, h, rfl, ⟨_, Same.tup s15 hg⟩, fun D nD => lc_it (walk_tup (K := K) (a := h) (xs := wg)) (fun i H' => Same H5 H' ∧ ∃ ws : List V, H' D = some (.lst ws) ∧ ws.length = i ∧ DpAll K H' ws (((callM m r).hands.take i).map handD)) ⟨same_upd nD, [], upd_same, rfl, .nil⟩ (fun i H' _ hP => Same.tup (s15.trans hP.1) hg) (fun i v Ha Hb hi hP hY => ?_) (fun H6 hP => ?_)⟩
    · obtain ⟨rfl, hx⟩ := hY
      obtain ⟨s6, ws, eD, lw, dl⟩ := hP
      have s16 := s15.trans s6
      obtain ⟨c', rr, y, rfl, gy, my, hc', hrr⟩ := dpAll_hand (dpAll_same s16 _ _ dg) hx
      refine ⟨c', _, rfl, hc', rfl, _, _, rfl, _, _, rfl, rfl, rfl, .str y.1, rfl, .ref rr, rfl, .ref b, rfl, sz1000 (by decide : (1 : Nat) ≤ 1000), fun o7 no7 => ?_⟩
      generalize h7 : upd _ o7 _ = H7
      obtain ⟨s7, e7⟩ := new_of h7 no7
      obtain ⟨w2, hr1, hr2⟩ := hrr
      have l2 := rows_len hr2
      have ly := M.lh y my
      refine ⟨rr, o7, _, _, rfl, rfl, Same.tup s7 hr1, .inl (.inl e7), sz1000 (by simp only [List.length_cons, List.length_nil]; omega), fun z8 H8 s8 h8 => ?_⟩
      refine ⟨sz1000 (by decide : (2 : Nat) ≤ 1000), fun z9 nz9 => ?_⟩
      generalize h9 : upd H8 z9 _ = H9
      obtain ⟨s9, e9⟩ := new_of h9 nz9
      have s79 := s7.trans (s8.trans s9)
      have eD9 := s79 _ _ eD
      have hi : i < m.hands.length := (List.getElem?_eq_some_iff.mp gy).1
      have tk := (Tk.refl H9).mut eD9 (ys := ws ++ [.ref z9])
      refine ⟨ws, eD9, small1000 (by omega), same_mut (s6.trans s79) nD, ws ++ [.ref z9], upd_same, by rw [List.length_append, lw]; rfl, ?_⟩
      have gr : (callM m r).hands[i]? = some (y.1, y.2 ++ [r]) := by
        unfold callM
        rw [List.getElem?_map, gy]
        rfl
      rw [List.take_add_one, gr, List.map_append]
      refine dpAll_append (dpAll_tk tk _ _ (noL_hands _) (dpAll_same s79 _ _ dl)) (.cons (.tup (tk _ _ _ (.inl (.inl e9))) (.cons (.str _) (.cons (.tup (tk _ _ _ (Same.tup s9 h8)) ?_) .nil))) .nil)
      rw [List.map_append]
      exact dpAll_append (dpAll_tk tk _ _ (noL_rows _) (dpAll_same s79 _ _ hr2)) (.cons (row_dp (tk _ _ _ (Same.tup (s16.trans s79) hb))) .nil)
    · obtain ⟨s6, ws, eD, lw, dl⟩ := hP
      have lr2 : (callM m r).hands.length = m.hands.length := by unfold callM; rw [List.length_map]
      rw [List.take_of_length_le (by omega)] at dl
      refine ⟨D, _, rfl, .inl ⟨.inl (.inl eD), fun t nt => ?_⟩⟩
      generalize h7 : upd H6 t _ = H7
      obtain ⟨s7, e7⟩ := new_of h7 nt
      have s17 := s15.trans (s6.trans s7)
      refine ⟨.ref a, rfl, a, _, dx, _, _, rfl, F1 s17, T.k_Moment.cl, T.na_Moment_p, momF_p, .ref a, rfl, a, _, dx, _, _, rfl, F1 s17, T.k_Moment.cl, T.na_Moment_n, momF_n, ?_⟩
      refine ⟨.ref a, rfl, a, _, dx, _, _, rfl, F1 s17, T.k_Moment.cl, T.na_Moment_called, momF_called, .ref b, rfl, sz1000 (by decide : (1 : Nat) ≤ 1000), fun o8 no8 => ?_⟩
      generalize h8 : upd H7 o8 _ = H8
      obtain ⟨s8, e8⟩ := new_of h8 no8
      obtain ⟨wc, hwc, dwc⟩ := hc
      have lwc := rows_len dwc
      have lc := M.lc
      have s18 := s17.trans s8
      refine ⟨c, o8, _, _, rfl, rfl, Same.tup s18 hwc, .inl (.inl e8), sz1000 (by simp only [List.length_cons, List.length_nil]; omega), fun z9 H9 s9 h9 => ?_⟩
      have s19 := s18.trans s9
      refine ⟨.ref t, rfl, made_mom (m' := callM m r) ⟨_, h9, ?_⟩ (.tup (.inl (.inl ((s8.trans s9) _ _ e7))) (dpAll_same (s7.trans (s8.trans s9)) _ _ dl)) fun H' a' s' at' => q H' a' (s19.trans s') at'⟩
      show DpAll K H9 _ ((m.called ++ [r]).map rowD)
      rw [List.map_append]
      exact dpAll_append (dpAll_same s19 _ _ dwc) (.cons (row_dp (Same.tup s19 hb)) .nil)
def sp_after_whisper (K : PySem.W.Frag) (mg : Str → Option Value) : Sp := fun vs H Q _ => ∃ (a b c : Addr) (ns : List Str) (r : List Int) (m : Mom), vs = [.ref a, .ref c, .ref b] ∧ MomAt K mg H a m ∧ MomOk 900 m ∧ SqT K H b (r.map V.int) ∧ RowsOk m.p m.n [r] ∧ SqT K H c (ns.map V.str) ∧ ns.Pairwise sl ∧ 1 ≤ ns.length ∧ ns.length ≤ 100 ∧ (∀ x ∈ ns, x ∈ m.hands.map Prod.fst) ∧
  ∀ H' a', Same H H' → MomAt K mg H' a' (whisperM m ns r) → Q (.ref a') H'
theorem ok_after_whisper (T : Top K mg) : Ok P w K mg base 7 "after_whisper" ["moment", "hands", "row"] (sp_after_whisper K mg) := by
  have O_check_hands := ok_check_hands (P := P) (w := w) (base := base) T
  have O_names_at := ok_names_at (P := P) (w := w) (base := base) T
  have O_check_row := ok_check_rowB (P := P) (w := w) (base := base) T
  have O_Moment___init__ := ok_Moment___init__ (P := P) (w := w) (base := base) T
  refine T.d_after_whisper.ok sc_after_whisper (fun vs H Q E h => ?_) (fun f cdv A outer s H vs Q E hr h => ?_)
  · obtain ⟨a, b, c, ns, r, m, rfl, _⟩ := h
    rfl
  · obtain ⟨a, b, cn, ns, r, m, rfl, ma, M, hb, ok, hn, srt, n1, n100, inn, q⟩ := h
    obtain ⟨dx, c, h, ea, hc, hh⟩ := id ma
    refine ⟨_, ((pss_cons (ps_expr (pe_callO O_check_hands (hr.mono (by omega)) (by rfl) (pa_cons (pe_callO O_names_at (hr.mono (by omega)) (by rfl) (pa_cons (pv 0) pa_nil)) (pa_cons (pv 1) (pa_cons pe_int pa_nil)))))
      (pss_cons (ps_expr (pe_callO O_check_row (hr.mono (by omega)) (by rfl) (pa_cons (pe_fld (pv 0) (by rfl)) (pa_cons (pe_fld (pv 0) (by rfl)) (pa_cons (pv 2) pa_nil)))))
      (pss_cons (ps_setLc (i := 5) (own := [("name", 3), ("rows", 4)]) (g := gTup K 2 (gCons (gName 3) (gCons (gName 4) gNil))) (by rfl) sc_after_whisper.nd rfl rfl (sw_true rfl rfl rfl (by decide +kernel)) (pi_tup (pe_fld (pv 0) (by rfl))) (blkOk_by (own := [("name", 3), ("rows", 4)]) (N := N_after_whisper) (sc := defScope s_after_whisper) (by decide +kernel)) (fun _ _ _ _ _ => (pg_tup (by rfl) (pgs_cons (pg_name (i := 3) sc_after_whisper.nd rfl (.inl rfl)) (pgs_cons (pg_name (i := 4) sc_after_whisper.nd rfl (.inl rfl)) pgs_nil)))) (fun _ _ _ _ _ => pts_nil) (fun _ _ _ _ _ => (pe_tup (pa_cons (pv 3) (pa_cons (pe_ifExp (pt_cmpR (show OpR _ (compareOp .In) (rIn K false) from op_in_seq) (pv 3) (pv 1) (by rfl)) (pe_op (show OpR _ (binaryOp .Add) (rCatB K) from op_catB) (pv 4) (pe_tup (pa_cons (pv 2) pa_nil))) (pv 4)) pa_nil)))))
      (pss_one (ps_ret (pe_makeO O_Moment___init__ T.k_Moment (hr.mono (by omega)) (by rfl) (pa_cons (pe_fld (pv 0) (by rfl)) (pa_cons (pe_fld (pv 0) (by rfl)) (pa_cons (pe_fld (pv 0) (by rfl)) (pa_cons (pe_callTy call_tuple_of (by rfl) T.b_tuple (by decide +kernel) (pa_cons (pv 5) pa_nil)) pa_nil))))))))))), ?_⟩
    have many := M.many
    have n8 := M.n8
    have F1 : ∀ {H' : Hp}, Same H H' → H' a = some (.ins (adr mg "Moment") dx (momF m.p m.n c h)) := fun s => s _ _ ea
    refine ⟨.ref a, rfl, a, m, rfl, ma, by omega, fun H1 l1 s1 h1 => ?_⟩
    refine ⟨.ref cn, rfl, l1, cn, _, ns, 1, rfl, h1, Same.tup s1 hn, fun x hx => M.nm x (inn x hx), srt, n100, by omega, inn, fun H1' s1' => ?_⟩
    have s11 := s1.trans s1'
    refine ⟨.ref a, rfl, a, _, dx, _, _, rfl, F1 s11, T.k_Moment.cl, T.na_Moment_p, momF_p, .ref a, rfl, a, _, dx, _, _, rfl, F1 s11, T.k_Moment.cl, T.na_Moment_n, momF_n, .ref b, rfl, ?_⟩
    have lr := (ok r List.mem_cons_self).1
    refine ⟨b, r, m.p, m.n, rfl, Same.tup s11 hb, ok, by omega, fun H5 s5 => ?_⟩
    have s15 := s11.trans s5
    obtain ⟨wg, hg, dg, lg⟩ := mom_hands hh
    refine ⟨.ref a, rfl, a, _, dx, _, _, rfl, F1 s15, T.k_Moment.cl, T.na_Moment_hands, momF_hands, h, rfl, ⟨_, Same.tup s15 hg⟩, fun D nD => lc_it (walk_tup (K := K) (a := h) (xs := wg)) (fun i H' => Same H5 H' ∧ ∃ ws : List V, H' D = some (.lst ws) ∧ ws.length = i ∧ DpAll K H' ws (((whisperM m ns r).hands.take i).map handD)) ⟨same_upd nD, [], upd_same, rfl, .nil⟩ (fun i H' _ hP => Same.tup (s15.trans hP.1) hg) (fun i v Ha Hb hi hP hY => ?_) (fun H6 hP => ?_)⟩
    · obtain ⟨rfl, hx⟩ := hY
      obtain ⟨s6, ws, eD, lw, dl⟩ := hP
      have s16 := s15.trans s6
      obtain ⟨c', rr, y, rfl, gy, my, hc', hrr⟩ := dpAll_hand (dpAll_same s16 _ _ dg) hx
      obtain ⟨w2, hr1, hr2⟩ := hrr
      have l2 := rows_len hr2
      have ly := M.lh y my
      have hi : i < m.hands.length := (List.getElem?_eq_some_iff.mp gy).1
      refine ⟨c', _, rfl, hc', rfl, _, _, rfl, _, _, rfl, rfl, rfl, .str y.1, rfl, .str y.1, rfl, .ref cn, rfl, cn, _, rfl, .inr (Same.tup s16 hn), rfl, flat_strs ns, _, rfl, ?_⟩
      rw [show (if false = true then !inV (V.str y.1) (ns.map V.str) else inV (V.str y.1) (ns.map V.str)) = decide (y.1 ∈ ns) from in_strs y.1 ns]
      -- the hand's new pair
      have fin : ∀ {H8 : Hp} (z8 : Addr) (rs : List (List Int)) (w8 : List V), (Same Hb H8) → SqT K H8 z8 w8 → DpAll K H8 w8 (rs.map rowD) → (whisperM m ns r).hands[i]? = some (y.1, rs) → ∀ {H9 : Hp} (z9 : Addr), Same H8 H9 → H9 z9 = some (.tup [.str y.1, .ref z8]) →
          ∃ acc, H9 D = some (.lst acc) ∧ acc.length < sizeLine ∧ (Same H5 (upd H9 D (.lst (acc ++ [.ref z9]))) ∧ ∃ ws : List V, (upd H9 D (.lst (acc ++ [.ref z9]))) D = some (.lst ws) ∧ ws.length = i + 1 ∧ DpAll K (upd H9 D (.lst (acc ++ [.ref z9]))) ws (((whisperM m ns r).hands.take (i + 1)).map handD)) := fun {H8} z8 rs w8 s8 h8 d8 gr {H9} z9 s9 e9 => by
        have s79 := s8.trans s9
        have eD9 := s79 _ _ eD
        have tk := (Tk.refl H9).mut eD9 (ys := ws ++ [.ref z9])
        refine ⟨ws, eD9, small1000 (by omega), same_mut (s6.trans s79) nD, ws ++ [.ref z9], upd_same, by rw [List.length_append, lw]; rfl, ?_⟩
        rw [List.take_add_one, gr, List.map_append]
        exact dpAll_append (dpAll_tk tk _ _ (noL_hands _) (dpAll_same s79 _ _ dl)) (.cons (.tup (tk _ _ _ (.inl (.inl e9))) (.cons (.str _) (.cons (.tup (tk _ _ _ (Same.tup s9 h8)) (dpAll_tk tk _ _ (noL_rows _) (dpAll_same s9 _ _ d8))) .nil))) .nil)
      have gr : (whisperM m ns r).hands[i]? = some (if y.1 ∈ ns then (y.1, y.2 ++ [r]) else y) := by
        unfold whisperM
        rw [List.getElem?_map, gy]
        rfl
      by_cases hm : y.1 ∈ ns
      · rw [if_pos hm] at gr
        rw [decide_eq_true hm]
        refine iteT ⟨.ref rr, rfl, .ref b, rfl, sz1000 (by decide : (1 : Nat) ≤ 1000), fun o7 no7 => ?_⟩
        generalize h7 : upd _ o7 _ = H7
        obtain ⟨s7, e7⟩ := new_of h7 no7
        refine ⟨rr, o7, _, _, rfl, rfl, Same.tup s7 hr1, .inl (.inl e7), sz1000 (by simp only [List.length_cons, List.length_nil]; omega), fun z8 H8 s8 h8 => ?_⟩
        refine ⟨sz1000 (by decide : (2 : Nat) ≤ 1000), fun z9 nz9 => ?_⟩
        generalize h9 : upd H8 z9 _ = H9
        obtain ⟨s9, e9⟩ := new_of h9 nz9
        refine fin z8 (y.2 ++ [r]) _ (s7.trans s8) h8 ?_ gr z9 s9 e9
        rw [List.map_append]
        exact dpAll_append (dpAll_same (s7.trans s8) _ _ hr2) (.cons (row_dp (Same.tup (s16.trans (s7.trans s8)) hb)) .nil)
      · rw [if_neg hm] at gr
        rw [decide_eq_false hm]
        refine iteF ⟨.ref rr, rfl, sz1000 (by decide : (2 : Nat) ≤ 1000), fun z9 nz9 => ?_⟩
        generalize h9 : upd _ z9 _ = H9
        obtain ⟨s9, e9⟩ := new_of h9 nz9
        exact fin rr y.2 _ (Same.refl _) hr1 hr2 gr z9 s9 e9
    · obtain ⟨s6, ws, eD, lw, dl⟩ := hP
      have lr2 : (whisperM m ns r).hands.length = m.hands.length := by unfold whisperM; rw [List.length_map]
      rw [List.take_of_length_le (by omega)] at dl
      have s17 := s15.trans s6
      refine ⟨.ref a, rfl, a, _, dx, _, _, rfl, F1 s17, T.k_Moment.cl, T.na_Moment_p, momF_p, .ref a, rfl, a, _, dx, _, _, rfl, F1 s17, T.k_Moment.cl, T.na_Moment_n, momF_n, ?_⟩
      refine ⟨.ref a, rfl, a, _, dx, _, _, rfl, F1 s17, T.k_Moment.cl, T.na_Moment_called, momF_called, .ref D, rfl, D, _, rfl, .inl ⟨.inl (.inl eD), fun t nt => ?_⟩⟩
      generalize h7 : upd H6 t _ = H7
      obtain ⟨s7, e7⟩ := new_of h7 nt
      exact made_mom (m' := whisperM m ns r) (RowsAt.same (s17.trans s7) hc) (.tup (.inl (.inl e7)) (dpAll_same s7 _ _ dl)) fun H' a' s' at' => q H' a' (s17.trans (s7.trans s')) at'
/-- the steps, by their words -/
structure StepsW (w : World) (K : PySem.W.Frag) (mg : Str → Option Value) : Prop where
  g_STEPS : mg "STEPS" = some (.ref (adr mg "STEPS"))
  at_ : ∀ x f : Str, (x, f) ∈ ([("call", "after_call"), ("whisper", "after_whisper"), ("meet", "after_meet")] : List (Str × Str)) → KDct K w (adr mg "STEPS") x (.ref (adr mg f))
def sp_after (K : PySem.W.Frag) (S : Str → Sp → Prop) : Sp := fun vs H Q _ => ∃ (a t : Addr) (x : Str) (xs : List V) (sp : Sp), vs = [.ref a, .ref t] ∧ SqT K H t (.str x :: xs) ∧ S x sp ∧ ∀ H', Same H H' → sp (.ref a :: xs) H' Q E0
theorem ok_after (T : Top K mg) (W : StepsW w K mg) {S : Str → Sp → Prop} (hS : ∀ x sp, S x sp → ∃ f, KDct K w (adr mg "STEPS") x (.ref f) ∧ HeldR P w K mg base 9 f sp) : Ok P w K mg base 10 "after" ["moment", "deed"] (sp_after K S) := by
  refine T.d_after.ok sc_after (fun vs H Q E h => ?_) (fun f cdv A outer s H vs Q E hr h => ?_)
  · obtain ⟨a, t, x, xs, sp, rfl, _⟩ := h
    rfl
  · obtain ⟨a, t, x, xs, sp, rfl, ht, hs, q⟩ := h
    refine ⟨_, ((pss_cons (ps_set (i := 2) sc_after.nd rfl (.inl rfl) (pe_ix ix_kdict (pe_glob (v := .ref _) (by rfl) W.g_STEPS rfl) (pe_ix ix_tup (pv 1) pe_int (fun _ _ => rfl)) (fun _ _ => rfl)))
      (pss_cons (ps_set (i := 3) sc_after.nd rfl (.inl rfl) (pe_slice sl_tupB (pv 1) (po_some pe_int) po_none))
      (pss_one (ps_ret (pe_callLS (k := 9) (hr.mono (by omega)) (i := 2) (by rfl) (.inl rfl) (pa_cons (pv 0) (StX.pa_star (pv 3) pa_nil)))))))), ?_⟩
    obtain ⟨f, kd, hf⟩ := hS x sp hs
    refine ⟨.ref t, rfl, t, _, 0, .str x, rfl, rfl, ht, atI_nat (j := 0) rfl, adr mg "STEPS", x, .ref f, rfl, rfl, kd, ?_⟩
    refine ⟨.ref t, rfl, 1, rfl, t, _, rfl, ht, fun b2 H2 s2 h2 => ?_⟩
    rw [cut1] at h2
    exact ⟨f, sp, rfl, hf, .ref a, rfl, .ref b2, rfl, b2, xs, rfl, .inl h2, by
      have z := q H2 s2
      show sp (.ref a :: (xs ++ [])) H2 _ E0
      rw [List.append_nil]
      exact z⟩
def sp_now (K : PySem.W.Frag) (mg : Str → Option Value) : Sp := fun vs H Q _ => ∃ (b : Addr) (q : BookS), vs = [.ref b] ∧ BookAt K mg H b q ∧ ∀ a m, q.moms[q.moms.length - 1]? = some m → MomAt K mg H a m → Q (.ref a) H
theorem atI_last {ws : List V} {v : V} (g : ws[ws.length - 1]? = some v) (h : 0 < ws.length) : atI ws (-1) = some v := by
  unfold atI ixN
  rw [if_neg (by decide), if_pos (by omega)]
  show ws[((-1 : Int) + (ws.length : Int)).toNat]? = some v
  rw [show ((-1 : Int) + (ws.length : Int)).toNat = ws.length - 1 by omega]
  exact g
theorem last_mom {H : Hp} {vs : List V} {q : BookS} (h2 : MomsAt K mg H vs q.moms) (l : q.moms.length = q.deeds.length + 1) : ∃ a m, q.moms[q.moms.length - 1]? = some m ∧ atI vs (-1) = some (.ref a) ∧ MomAt K mg H a m := by
  have g : q.moms[q.moms.length - 1]? = some (q.moms[q.moms.length - 1]'(by omega)) := List.getElem?_eq_getElem (by omega)
  obtain ⟨a, ga, ha⟩ := h2.get g
  have lv := h2.len
  exact ⟨a, _, g, atI_last (by rw [lv]; exact ga) (by omega), ha⟩
theorem ok_Book_now (T : Top K mg) : OkM P w K mg base 1 "Book" "now" ["self"] [] (sp_now K mg) := by
  refine T.d_Book_now.ok sc_Book_now (fun vs H Q E h => ?_) (fun f cdv A outer s H vs Q E hr h => ?_)
  · obtain ⟨b, q, rfl, _⟩ := h
    rfl
  · obtain ⟨b, q, rfl, ⟨⟨dx, w', t, u, v, ws, eb, h1, h2, h3, h4, h5⟩, nd, len⟩, k⟩ := h
    refine ⟨_, ((pss_one (ps_ret (pe_ix ix_tup (pe_fld (pv 0) (by rfl)) (pe_un un_neg pe_int) (fun _ _ => rfl))))), ?_⟩
    obtain ⟨a, m, g, ha, hm⟩ := last_mom h2 len
    exact ⟨.ref b, rfl, b, _, dx, _, _, rfl, eb, T.k_Book.cl, T.na_Book_moments, bookF_moments, 1, rfl, t, _, -1, .ref a, rfl, rfl, h1, ha, k a m g hm⟩
def sp_amid (K : PySem.W.Frag) (mg : Str → Option Value) : Sp := fun vs H Q _ => ∃ (b : Addr) (q : BookS), vs = [.ref b] ∧ BookAt K mg H b q ∧ q.amid = false ∧ Q .non H
theorem ok_Book_refuse_amid (T : Top K mg) : OkM P w K mg base 1 "Book" "refuse_amid" ["self"] [] (sp_amid K mg) := by
  refine T.d_Book_refuse_amid.ok sc_Book_refuse_amid (fun vs H Q E h => ?_) (fun f cdv A outer s H vs Q E hr h => ?_)
  · obtain ⟨b, q, rfl, _⟩ := h
    rfl
  · obtain ⟨b, q, rfl, ⟨⟨dx, w', t, u, v, ws, eb, h1, h2, h3, h4, h5⟩, nd, len⟩, am, k⟩ := h
    refine ⟨_, ((pss_one (ps_if (pt_val (pe_fld (pv 0) (by rfl)))
        (pss_one ps_dead)
        pss_nil))), ?_⟩
    rw [am] at eb
    exact ⟨.ref b, rfl, b, _, dx, _, _, rfl, eb, T.k_Book.cl, T.na_Book_amid, bookF_amid, false, rfl, iteF k⟩
def sp_moment_at (K : PySem.W.Frag) (mg : Str → Option Value) : Sp := fun vs H Q _ => ∃ (b : Addr) (q : BookS) (v : V) (i : Nat), vs = [.ref b, v] ∧ BookAt K mg H b q ∧ AtIdx q v i ∧ ∀ a m, q.moms[i]? = some m → MomAt K mg H a m → Q (.ref a) H
theorem ok_Book_moment_at (T : Top K mg) : OkM P w K mg base 2 "Book" "moment_at" ["self", "at"] [] (sp_moment_at K mg) := by
  have O_Book_now := ok_Book_now (P := P) (w := w) (base := base) T
  have O_is_number := ok_is_number (P := P) (w := w) (base := base) T
  refine T.d_Book_moment_at.ok sc_Book_moment_at (fun vs H Q E h => ?_) (fun f cdv A outer s H vs Q E hr h => ?_)
  · obtain ⟨b, q, v, i, rfl, _⟩ := h
    rfl
  · obtain ⟨b, q, v, i, rfl, B, ⟨hi, hv⟩, k⟩ := h
    obtain ⟨⟨dx, w', t, u, v', ws, eb, h1, h2, h3, h4, h5⟩, nd, len⟩ := id B
    refine ⟨_, ((pss_cons (ps_if (pt_cmpR op_isN (pv 1) pe_non (nomark _))
        (pss_one (ps_ret (pe_methO0 O_Book_now T.k_Book (hr.mono (by omega)) (pv 0))))
        pss_nil)
      (pss_cons (ps_if (PW.pt (pw_or (pt_not (pt_val (pe_callO O_is_number (hr.mono (by omega)) (by rfl) (pa_cons (pv 1) pa_nil)))) (pw_or1 (pt_not (pt_chain op_le op_le pe_int (pv 1) (pe_callB call_len_seq (by rfl) T.b_len (by decide +kernel) (pa_cons (pe_fld (pv 0) (by rfl)) pa_nil)))))))
        (pss_one ps_dead)
        pss_nil)
      (pss_one (ps_ret (pe_ix ix_tup (pe_fld (pv 0) (by rfl)) (pv 1) (fun _ _ => rfl))))))), ?_⟩
    rcases hv with ⟨rfl, hl⟩ | rfl
    · refine ⟨.non, rfl, rfl, _, rfl, ?_⟩
      rw [decide_eq_true rfl]
      refine iteT ⟨.ref b, rfl, b, dx, _, rfl, eb, bookF_none (by decide +kernel) (by decide +kernel) (by decide +kernel) (by decide +kernel) (by decide +kernel), b, q, rfl, B, fun a m g hm => k a m ?_ hm⟩
      rw [show i = q.moms.length - 1 by omega]
      exact g
    · refine ⟨.int i, rfl, rfl, _, rfl, ?_⟩
      rw [decide_eq_false (fun z => nomatch z)]
      obtain ⟨m, gm⟩ : ∃ m, q.moms[i]? = some m := ⟨_, List.getElem?_eq_getElem hi⟩
      obtain ⟨a, ga, ha⟩ := h2.get gm
      obtain ⟨wu, hu, du, lu⟩ : ∃ wu, SqT K H u wu ∧ DpAll K H wu (q.deeds.map deedD) ∧ wu.length = q.deeds.length := by
        cases h3 with
        | tup a b =>
          have := dpAll_len b
          rw [List.length_map] at this
          exact ⟨_, a, b, this⟩
      refine iteF ⟨.int i, rfl, .int i, .int, rfl, kd_int _, _, rfl, iteF ?_⟩
      refine ⟨.int i, rfl, 0, _, rfl, rfl, _, rfl, ?_⟩
      rw [decide_eq_true (show (0 : Int) ≤ (i : Int) by omega)]
      refine iteT ⟨.ref b, rfl, b, _, dx, _, _, rfl, eb, T.k_Book.cl, T.na_Book_done, bookF_done, u, _, rfl, .inr hu, _, _, rfl, rfl, _, rfl, ?_⟩
      rw [decide_eq_true (show (i : Int) ≤ (wu.length : Int) by omega)]
      refine iteF ⟨.ref b, rfl, b, _, dx, _, _, rfl, eb, T.k_Book.cl, T.na_Book_moments, bookF_moments, .int i, rfl, t, _, i, .ref a, rfl, rfl, h1, atI_nat ga, k a m gm ha⟩
theorem deeds_of {H : Hp} {u : Addr} {ds : List Deed} (h : Dp K H (.ref u) (.tuple (ds.map deedD))) : ∃ wu, SqT K H u wu ∧ DpAll K H wu (ds.map deedD) ∧ wu.length = ds.length := by
  cases h with
  | tup a b =>
    have := dpAll_len b
    rw [List.length_map] at this
    exact ⟨_, a, b, this⟩
def sp_moment_of (K : PySem.W.Frag) (mg : Str → Option Value) : Sp := fun vs H Q _ => ∃ (b c : Addr) (q : BookS) (v : V) (i : Nat) (k : Int) (ns : List Str) (m : Mom), vs = [.ref b, .ref c, .int k, v] ∧ BookAt K mg H b q ∧ AtIdx q v i ∧ q.moms[i]? = some m ∧ MomOk 1000 m ∧ SqT K H c (ns.map V.str) ∧ ns.Pairwise sl ∧ k ≤ ns.length ∧ ns.length ≤ 100 ∧ (∀ x ∈ ns, x ∈ m.hands.map Prod.fst) ∧
  ∀ H' a, Same H H' → MomAt K mg H' a m → Q (.ref a) H'
theorem ok_Book_moment_of (T : Top K mg) : OkM P w K mg base 4 "Book" "moment_of" ["self", "hands", "least", "at"] [] (sp_moment_of K mg) := by
  have O_Book_moment_at := ok_Book_moment_at (P := P) (w := w) (base := base) T
  have O_check_hands := ok_check_hands (P := P) (w := w) (base := base) T
  have O_names_at := ok_names_at (P := P) (w := w) (base := base) T
  refine T.d_Book_moment_of.ok sc_Book_moment_of (fun vs H Q E h => ?_) (fun f cdv A outer s H vs Q E hr h => ?_)
  · obtain ⟨b, c, q, v, i, k, ns, m, rfl, _⟩ := h
    rfl
  · obtain ⟨b, c, q, v, i, k, ns, m, rfl, B, hi, gm, M, hc, srt, lk, l100, inn, k'⟩ := h
    obtain ⟨⟨dx, w', t, u, v', ws, eb, h1, h2, h3, h4, h5⟩, nd, len⟩ := id B
    refine ⟨_, ((pss_cons (ps_set (i := 4) sc_Book_moment_of.nd rfl (.inl rfl) (pe_methO O_Book_moment_at T.k_Book (hr.mono (by omega)) (pv 0) (pa_cons (pv 3) pa_nil)))
      (pss_cons (ps_expr (pe_callO O_check_hands (hr.mono (by omega)) (by rfl) (pa_cons (pe_callO O_names_at (hr.mono (by omega)) (by rfl) (pa_cons (pv 4) pa_nil)) (pa_cons (pv 1) (pa_cons (pv 2) pa_nil)))))
      (pss_one (ps_ret (pv 4)))))), ?_⟩
    have many := M.many
    refine ⟨.ref b, rfl, b, dx, _, rfl, eb, bookF_none (by decide +kernel) (by decide +kernel) (by decide +kernel) (by decide +kernel) (by decide +kernel), v, rfl, b, q, v, i, rfl, B, hi, fun a m' g hm => ?_⟩
    cases gm.symm.trans g
    refine ⟨.ref a, rfl, a, m, rfl, hm, by omega, fun H1 l s1 h1' => ?_⟩
    refine ⟨.ref c, rfl, .int k, rfl, l, c, _, ns, k, rfl, h1', Same.tup s1 hc, fun x hx => M.nm x (inn x hx), srt, l100, lk, inn, fun H2 s2 => ?_⟩
    exact ⟨.ref a, rfl, k' H2 a (s1.trans s2) (hm.same (s1.trans s2))⟩
def sp_bheard (K : PySem.W.Frag) (mg : Str → Option Value) : Sp := fun vs H Q _ => ∃ (b c : Addr) (q : BookS) (v : V) (i : Nat) (ns : List Str) (m : Mom), vs = [.ref b, .ref c, v] ∧ BookAt K mg H b q ∧ AtIdx q v i ∧ q.moms[i]? = some m ∧ MomOk 1000 m ∧ SqT K H c (ns.map V.str) ∧ ns.Pairwise sl ∧ ns.length ≤ 100 ∧ (∀ x ∈ ns, x ∈ m.hands.map Prod.fst) ∧
  ∀ H' l, Same H H' → RowsAt K H' l (heardM m ns) → Q (.ref l) H'
theorem book_heard (T : Top K mg) {f : Addr} {cdv : Value} {A : Around} {outer : List Env} {s : Shared} {H : Hp} {vs : List V} {Q : VK} {E : XK} (hr : Room 6 (A.deeper (envOfC "Book.heard" (defScope s_Book_heard) s.heap.objs.size f cdv))) (h : sp_bheard K mg vs H Q E) :
    ∃ t, PSs (cxOf CX0 P w K mg base N_Book_heard "Book.heard" (defScope s_Book_heard) f cdv A outer s H E).nox (defBody s_Book_heard) t ∧ t { nx := fun _ H' => Q .non H', rt := Q } (start N_Book_heard vs) H := by
  have O_Book_moment_of := ok_Book_moment_of (P := P) (w := w) (base := base) T
  have O_heard_at := ok_heard_at (P := P) (w := w) (base := base) T
  obtain ⟨b, c, q, v, i, ns, m, rfl, B, hi, gm, M, hc, srt, l100, inn, k'⟩ := h
  obtain ⟨⟨dx, w', t, u, v', ws, eb, h1, h2, h3, h4, h5⟩, nd, len⟩ := id B
  refine ⟨_, ((pss_one (ps_ret (pe_callO O_heard_at (hr.mono (by omega)) (by rfl) (pa_cons (pe_methO O_Book_moment_of T.k_Book (hr.mono (by omega)) (pv 0) (pa_cons (pv 1) (pa_cons pe_int (pa_cons (pv 2) pa_nil)))) (pa_cons (pv 1) pa_nil)))))), ?_⟩
  have many := M.many
  refine ⟨.ref b, rfl, b, dx, _, rfl, eb, bookF_none (by decide +kernel) (by decide +kernel) (by decide +kernel) (by decide +kernel) (by decide +kernel), .ref c, rfl, v, rfl, b, c, q, v, i, 0, ns, m, rfl, B, hi, gm, M, hc, srt, by omega, l100, inn, fun H1 a s1 hm => ?_⟩
  exact ⟨.ref c, rfl, a, c, m, ns, rfl, hm, Same.tup s1 hc, by omega, M.lh, fun H2 l s2 r2 => k' H2 l (s1.trans s2) r2⟩
theorem ok_Book_heard (T : Top K mg) : OkM P w K mg base 7 "Book" "heard" ["self", "hands", "at"] [.non] (sp_bheard K mg) :=
  T.d_Book_heard.ok sc_Book_heard (fun vs H Q E h => by
    obtain ⟨b, c, q, v, i, ns, m, rfl, _⟩ := h
    rfl) fun f cdv A outer s H vs Q E hr h => book_heard T hr h
def sp_bknown (K : PySem.W.Frag) (mg : Str → Option Value) : Sp := fun vs H Q _ => ∃ (b c : Addr) (q : BookS) (v : V) (i : Nat) (ns : List Str) (m : Mom), vs = [.ref b, .ref c, v] ∧ BookAt K mg H b q ∧ AtIdx q v i ∧ q.moms[i]? = some m ∧ MomOk 1000 m ∧ SqT K H c (ns.map V.str) ∧ ns.Pairwise sl ∧ ns.length ≤ 100 ∧ (∀ x ∈ ns, x ∈ m.hands.map Prod.fst) ∧
  ∀ H' l, Same H H' → RowsAt K H' l (plainR m.p m.n (heardM m ns)) → Q (.ref l) H'
theorem book_known (T : Top K mg) {f : Addr} {cdv : Value} {A : Around} {outer : List Env} {s : Shared} {H : Hp} {vs : List V} {Q : VK} {E : XK} (hr : Room 6 (A.deeper (envOfC "Book.known" (defScope s_Book_known) s.heap.objs.size f cdv))) (h : sp_bknown K mg vs H Q E) :
    ∃ t, PSs (cxOf CX0 P w K mg base N_Book_known "Book.known" (defScope s_Book_known) f cdv A outer s H E).nox (defBody s_Book_known) t ∧ t { nx := fun _ H' => Q .non H', rt := Q } (start N_Book_known vs) H := by
  have O_Book_moment_of := ok_Book_moment_of (P := P) (w := w) (base := base) T
  have O_known_at := ok_known_at (P := P) (w := w) (base := base) T
  obtain ⟨b, c, q, v, i, ns, m, rfl, B, hi, gm, M, hc, srt, l100, inn, k'⟩ := h
  obtain ⟨⟨dx, w', t, u, v', ws, eb, h1, h2, h3, h4, h5⟩, nd, len⟩ := id B
  refine ⟨_, ((pss_one (ps_ret (pe_callO O_known_at (hr.mono (by omega)) (by rfl) (pa_cons (pe_methO O_Book_moment_of T.k_Book (hr.mono (by omega)) (pv 0) (pa_cons (pv 1) (pa_cons pe_int (pa_cons (pv 2) pa_nil)))) (pa_cons (pv 1) pa_nil)))))), ?_⟩
  refine ⟨.ref b, rfl, b, dx, _, rfl, eb, bookF_none (by decide +kernel) (by decide +kernel) (by decide +kernel) (by decide +kernel) (by decide +kernel), .ref c, rfl, v, rfl, b, c, q, v, i, 0, ns, m, rfl, B, hi, gm, M, hc, srt, by omega, l100, inn, fun H1 a s1 hm => ?_⟩
  exact ⟨.ref c, rfl, a, c, m, ns, rfl, hm, Same.tup s1 hc, M, fun H2 l s2 r2 => k' H2 l (s1.trans s2) r2⟩
theorem ok_Book_knownK (T : Top K mg) : OkMK P w K mg base 7 "Book" "known" ["self", "hands", "at"] 2 ["at"] (sp_bknown K mg) :=
  T.d_Book_known.okK sc_Book_known (fun vs H Q E h => by
    obtain ⟨b, c, q, v, i, ns, m, rfl, _⟩ := h
    rfl) (fun _ _ _ _ _ _ us ws h1 h2 => match us, ws, h1, h2 with | [_, _], [_], _, _ => rfl) fun f cdv A outer s H vs Q E hr h => book_known T hr h
def sp_bknows (K : PySem.W.Frag) (mg : Str → Option Value) : Sp := fun vs H Q _ => ∃ (b c e : Addr) (q : BookS) (v : V) (i : Nat) (ns : List Str) (r : List Int) (m : Mom), vs = [.ref b, .ref c, .ref e, v] ∧ BookAt K mg H b q ∧ AtIdx q v i ∧ q.moms[i]? = some m ∧ MomOk 1000 m ∧ SqT K H c (ns.map V.str) ∧ ns.Pairwise sl ∧ ns.length ≤ 100 ∧ (∀ x ∈ ns, x ∈ m.hands.map Prod.fst) ∧ SqT K H e (r.map V.int) ∧ RowsOk m.p m.n [r] ∧
  ∀ H', Same H H' → Q (.bl (hasR m.p m.n (plainR m.p m.n (heardM m ns)) r)) H'
theorem book_knows (T : Top K mg) {f : Addr} {cdv : Value} {A : Around} {outer : List Env} {s : Shared} {H : Hp} {vs : List V} {Q : VK} {E : XK} (hr : Room 6 (A.deeper (envOfC "Book.knows" (defScope s_Book_knows) s.heap.objs.size f cdv))) (h : sp_bknows K mg vs H Q E) :
    ∃ t, PSs (cxOf CX0 P w K mg base N_Book_knows "Book.knows" (defScope s_Book_knows) f cdv A outer s H E).nox (defBody s_Book_knows) t ∧ t { nx := fun _ H' => Q .non H', rt := Q } (start N_Book_knows vs) H := by
  have O_Book_moment_of := ok_Book_moment_of (P := P) (w := w) (base := base) T
  have O_known_at := ok_known_at (P := P) (w := w) (base := base) T
  have O_check_row := ok_check_rowB (P := P) (w := w) (base := base) T
  have O_within := ok_within (P := P) (w := w) (base := base) T
  obtain ⟨b, c, e, q, v, i, ns, r, m, rfl, B, hi, gm, M, hc, srt, l100, inn, he, ok, k'⟩ := h
  obtain ⟨⟨dx, w', t, u, v', ws, eb, h1, h2, h3, h4, h5⟩, nd, len⟩ := id B
  refine ⟨_, ((pss_cons (ps_set (i := 4) sc_Book_knows.nd rfl (.inl rfl) (pe_methO O_Book_moment_of T.k_Book (hr.mono (by omega)) (pv 0) (pa_cons (pv 1) (pa_cons pe_int (pa_cons (pv 3) pa_nil)))))
      (pss_cons (ps_expr (pe_callO O_check_row (hr.mono (by omega)) (by rfl) (pa_cons (pe_fld (pv 4) (by rfl)) (pa_cons (pe_fld (pv 4) (by rfl)) (pa_cons (pv 2) pa_nil)))))
      (pss_one (ps_ret (pe_callO O_within (hr.mono (by omega)) (by rfl) (pa_cons (pe_fld (pv 4) (by rfl)) (pa_cons (pe_callO O_known_at (hr.mono (by omega)) (by rfl) (pa_cons (pv 4) (pa_cons (pv 1) pa_nil))) (pa_cons (pv 2) pa_nil))))))))), ?_⟩
  refine ⟨.ref b, rfl, b, dx, _, rfl, eb, bookF_none (by decide +kernel) (by decide +kernel) (by decide +kernel) (by decide +kernel) (by decide +kernel), .ref c, rfl, v, rfl, b, c, q, v, i, 0, ns, m, rfl, B, hi, gm, M, hc, srt, by omega, l100, inn, fun H1 a s1 hm => ?_⟩
  obtain ⟨dm, cm, hh, ea, hcm, hhm⟩ := id hm
  have n8 := M.n8
  have lr := (ok r List.mem_cons_self).1
  refine ⟨.ref a, rfl, a, _, dm, _, _, rfl, ea, T.k_Moment.cl, T.na_Moment_p, momF_p, .ref a, rfl, a, _, dm, _, _, rfl, ea, T.k_Moment.cl, T.na_Moment_n, momF_n, .ref e, rfl, ?_⟩
  refine ⟨e, r, m.p, m.n, rfl, Same.tup s1 he, ok, by omega, fun H2 s2 => ?_⟩
  refine ⟨.ref a, rfl, a, _, dm, _, _, rfl, s2 _ _ ea, T.k_Moment.cl, T.na_Moment_p, momF_p, .ref a, rfl, .ref c, rfl, a, c, m, ns, rfl, hm.same s2, Same.tup (s1.trans s2) hc, M, fun H3 l s3 r3 => ?_⟩
  exact ⟨.ref e, rfl, e, l, _, r, m.p, m.n, rfl, r3, Same.tup (s1.trans (s2.trans s3)) he, PFR.of_plain M.fld (heard_ok M ns), ok, M.fld, by omega, M.p1, fun H4 s4 => k' H4 (s1.trans (s2.trans (s3.trans s4)))⟩
theorem ok_Book_knowsK (T : Top K mg) : OkMK P w K mg base 7 "Book" "knows" ["self", "hands", "row", "at"] 3 ["at"] (sp_bknows K mg) :=
  T.d_Book_knows.okK sc_Book_knows (fun vs H Q E h => by
    obtain ⟨b, c, e, q, v, i, ns, r, m, rfl, _⟩ := h
    rfl) (fun _ _ _ _ _ _ us ws h1 h2 => match us, ws, h1, h2 with | [_, _, _], [_], _, _ => rfl) fun f cdv A outer s H vs Q E hr h => book_knows T hr h
def sp_bstand (K : PySem.W.Frag) (mg : Str → Option Value) : Sp := fun vs H Q _ => ∃ (b : Addr) (q : BookS) (v : V) (i : Nat) (m : Mom), vs = [.ref b, v] ∧ BookAt K mg H b q ∧ AtIdx q v i ∧ q.moms[i]? = some m ∧ MomOk 1000 m ∧
  ∀ H' l, Same H H' → Dp K H' (.ref l) (standM m) → Q (.ref l) H'
theorem book_stand (T : Top K mg) {f : Addr} {cdv : Value} {A : Around} {outer : List Env} {s : Shared} {H : Hp} {vs : List V} {Q : VK} {E : XK} (hr : Room 8 (A.deeper (envOfC "Book.stand" (defScope s_Book_stand) s.heap.objs.size f cdv))) (h : sp_bstand K mg vs H Q E) :
    ∃ t, PSs (cxOf CX0 P w K mg base N_Book_stand "Book.stand" (defScope s_Book_stand) f cdv A outer s H E).nox (defBody s_Book_stand) t ∧ t { nx := fun _ H' => Q .non H', rt := Q } (start N_Book_stand vs) H := by
  have O_Book_moment_at := ok_Book_moment_at (P := P) (w := w) (base := base) T
  have O_stand_at := ok_stand_at (P := P) (w := w) (base := base) T
  obtain ⟨b, q, v, i, m, rfl, B, hi, gm, M, k'⟩ := h
  obtain ⟨⟨dx, w', t, u, v', ws, eb, h1, h2, h3, h4, h5⟩, nd, len⟩ := id B
  refine ⟨_, ((pss_one (ps_ret (pe_callO O_stand_at (hr.mono (by omega)) (by rfl) (pa_cons (pe_methO O_Book_moment_at T.k_Book (hr.mono (by omega)) (pv 0) (pa_cons (pv 1) pa_nil)) pa_nil))))), ?_⟩
  refine ⟨.ref b, rfl, b, dx, _, rfl, eb, bookF_none (by decide +kernel) (by decide +kernel) (by decide +kernel) (by decide +kernel) (by decide +kernel), v, rfl, b, q, v, i, rfl, B, hi, fun a m' g hm => ?_⟩
  cases gm.symm.trans g
  exact ⟨a, m, rfl, hm, M, k'⟩
theorem ok_Book_standK (T : Top K mg) : OkMK P w K mg base 9 "Book" "stand" ["self", "at"] 1 ["at"] (sp_bstand K mg) :=
  T.d_Book_stand.okK sc_Book_stand (fun vs H Q E h => by
    obtain ⟨b, q, v, i, m, rfl, _⟩ := h
    rfl) (fun _ _ _ _ _ _ us ws h1 h2 => match us, ws, h1, h2 with | [_], [_], _, _ => rfl) fun f cdv A outer s H vs Q E hr h => book_stand T hr h
def sp_bnames (K : PySem.W.Frag) (mg : Str → Option Value) : Sp := fun vs H Q _ => ∃ (b : Addr) (q : BookS) (v : V) (i : Nat) (m : Mom), vs = [.ref b, v] ∧ BookAt K mg H b q ∧ AtIdx q v i ∧ q.moms[i]? = some m ∧ m.hands.length ≤ 100 ∧
  ∀ H' l, Same H H' → SqT K H' l ((m.hands.map Prod.fst).map V.str) → Q (.ref l) H'
theorem book_names (T : Top K mg) {f : Addr} {cdv : Value} {A : Around} {outer : List Env} {s : Shared} {H : Hp} {vs : List V} {Q : VK} {E : XK} (hr : Room 3 (A.deeper (envOfC "Book.names" (defScope s_Book_names) s.heap.objs.size f cdv))) (h : sp_bnames K mg vs H Q E) :
    ∃ t, PSs (cxOf CX0 P w K mg base N_Book_names "Book.names" (defScope s_Book_names) f cdv A outer s H E).nox (defBody s_Book_names) t ∧ t { nx := fun _ H' => Q .non H', rt := Q } (start N_Book_names vs) H := by
  have O_Book_moment_at := ok_Book_moment_at (P := P) (w := w) (base := base) T
  have O_names_at := ok_names_at (P := P) (w := w) (base := base) T
  obtain ⟨b, q, v, i, m, rfl, B, hi, gm, l100, k'⟩ := h
  obtain ⟨⟨dx, w', t, u, v', ws, eb, h1, h2, h3, h4, h5⟩, nd, len⟩ := id B
  refine ⟨_, ((pss_one (ps_ret (pe_callO O_names_at (hr.mono (by omega)) (by rfl) (pa_cons (pe_methO O_Book_moment_at T.k_Book (hr.mono (by omega)) (pv 0) (pa_cons (pv 1) pa_nil)) pa_nil))))), ?_⟩
  refine ⟨.ref b, rfl, b, dx, _, rfl, eb, bookF_none (by decide +kernel) (by decide +kernel) (by decide +kernel) (by decide +kernel) (by decide +kernel), v, rfl, b, q, v, i, rfl, B, hi, fun a m' g hm => ?_⟩
  cases gm.symm.trans g
  exact ⟨a, m, rfl, hm, l100, k'⟩
theorem ok_Book_names (T : Top K mg) : OkM P w K mg base 4 "Book" "names" ["self", "at"] [.non] (sp_bnames K mg) :=
  T.d_Book_names.ok sc_Book_names (fun vs H Q E h => by
    obtain ⟨b, q, v, i, m, rfl, _⟩ := h
    rfl) fun f cdv A outer s H vs Q E hr h => book_names T hr h
theorem ok_Book_namesK (T : Top K mg) : OkMK P w K mg base 4 "Book" "names" ["self", "at"] 1 ["at"] (sp_bnames K mg) :=
  T.d_Book_names.okK sc_Book_names (fun vs H Q E h => by
    obtain ⟨b, q, v, i, m, rfl, _⟩ := h
    rfl) (fun _ _ _ _ _ _ us ws h1 h2 => match us, ws, h1, h2 with | [_], [_], _, _ => rfl) fun f cdv A outer s H vs Q E hr h => book_names T hr h
def sp_blen (K : PySem.W.Frag) (mg : Str → Option Value) : Sp := fun vs H Q _ => ∃ (b : Addr) (q : BookS), vs = [.ref b] ∧ BookAt K mg H b q ∧ Q (.int (q.deeds.length : Nat)) H
theorem ok_Book___len__ (T : Top K mg) : OkM P w K mg base 1 "Book" "__len__" ["self"] [] (sp_blen K mg) := by
  refine T.d_Book___len__.ok sc_Book___len__ (fun vs H Q E h => ?_) (fun f cdv A outer s H vs Q E hr h => ?_)
  · obtain ⟨b, q, rfl, _⟩ := h
    rfl
  · obtain ⟨b, q, rfl, ⟨⟨dx, w', t, u, v, ws, eb, h1, h2, h3, h4, h5⟩, nd, len⟩, k⟩ := h
    refine ⟨_, ((pss_one (ps_ret (pe_callB call_len_seq (by rfl) T.b_len (by decide +kernel) (pa_cons (pe_fld (pv 0) (by rfl)) pa_nil))))), ?_⟩
    obtain ⟨wu, hu, du, lu⟩ := deeds_of h3
    refine ⟨.ref b, rfl, b, _, dx, _, _, rfl, eb, T.k_Book.cl, T.na_Book_done, bookF_done, u, _, rfl, .inr hu, ?_⟩
    rw [lu]
    exact k
theorem xc_upd {H : Hp} {b : Addr} {o : HO} : Xc b H (upd H b o) := fun a o' h n => by rw [upd_ne n]; exact h
def sp_book (K : PySem.W.Frag) (mg : Str → Option Value) : Sp := fun vs H Q _ => ∃ (b dx h : Addr) (p : Int) (n : Nat) (hs : List (Str × List (List Int))), vs = [.ref b, .int p, .int (n : Int), .ref h] ∧ H b = some (.ins (adr mg "Book") dx []) ∧ Dp K H (.ref h) (.tuple (hs.map handD)) ∧
  ∀ H', Xc b H H' → BookAt K mg H' b ⟨.tuple [.int p, .int (n : Int), .tuple (hs.map handD)], [⟨p, n, [], hs⟩], [], [], false⟩ → Q .non H'
theorem ok_Book___init__ (T : Top K mg) : OkM P w K mg base 3 "Book" "__init__" ["self", "p", "n", "hands"] [] (sp_book K mg) := by
  have O_Moment___init__ := ok_Moment___init__ (P := P) (w := w) (base := base) T
  refine T.d_Book___init__.ok sc_Book___init__ (fun vs H Q E h => ?_) (fun f cdv A outer s H vs Q E hr h => ?_)
  · obtain ⟨b, dx, h, p, n, hs, rfl, _⟩ := h
    rfl
  · obtain ⟨b, dx, h, p, n, hs, rfl, hb, dh, q⟩ := h
    refine ⟨_, ((pss_cons (ps_fld (pv 0) (pe_tup (pa_cons (pv 1) (pa_cons (pv 2) (pa_cons (pv 3) pa_nil)))) (by rfl))
      (pss_cons (ps_fld (pv 0) (pe_tup (pa_cons (pe_makeO O_Moment___init__ T.k_Moment (hr.mono (by omega)) (by rfl) (pa_cons (pv 1) (pa_cons (pv 2) (pa_cons (pe_tup pa_nil) (pa_cons (pv 3) pa_nil))))) pa_nil)) (by rfl))
      (pss_cons (ps_fld (pv 0) (pe_tup pa_nil) (by rfl))
      (pss_cons (ps_fld (pv 0) (pe_tup pa_nil) (by rfl))
      (pss_one (ps_fld (pv 0) pe_bl (by rfl)))))))), ?_⟩
    refine ⟨.int p, rfl, .int (n : Int), rfl, .ref h, rfl, sz1000 (by decide : (3 : Nat) ≤ 1000), fun z1 nz1 => ?_⟩
    generalize h1 : upd H z1 _ = H1
    obtain ⟨s1, e1⟩ := new_of h1 nz1
    refine ⟨.ref b, rfl, b, _, dx, _, rfl, s1 _ _ hb, T.k_Book.cl, T.na_Book_made, by decide, ?_⟩
    have x1 : Xc b H1 (upd H1 b (.ins (adr mg "Book") dx (putF "made" (.ref z1) []))) := xc_upd
    have b1 := s1 _ _ hb
    have b2 : (upd H1 b (.ins (adr mg "Book") dx (putF "made" (.ref z1) []))) b = some (.ins (adr mg "Book") dx (putF "made" (.ref z1) [])) := upd_same
    generalize upd H1 b _ = H2 at x1 b2 ⊢
    refine ⟨.int p, rfl, .int (n : Int), rfl, Nat.zero_le _, fun z2 nz2 => ?_⟩
    generalize h3 : upd H2 z2 _ = H3
    obtain ⟨s3, e3⟩ := new_of h3 nz2
    have m1 : Mv mg H1 H3 := (x1.trans (Xc.of s3)).mvI b1 rfl
    refine ⟨.ref h, rfl, fun a da na nda ne => ⟨a, da, z2, h, p, n, rfl, upd_same, fun H4 k4 f4 => ⟨rfl, ?_⟩⟩⟩
    obtain ⟨s4, at4⟩ := mom_made (m := ⟨p, n, [], hs⟩) na nda ⟨[], .inl (.inl e3), .nil⟩ (dp_tk m1.tk _ _ (noL_handsT _) (dp_same s1 _ _ dh)) k4 f4
    refine ⟨sz1000 (by decide : (1 : Nat) ≤ 1000), fun z5 nz5 => ?_⟩
    generalize h5 : upd H4 z5 _ = H5
    obtain ⟨s5, e5⟩ := new_of h5 nz5
    have b5 := (s3.trans (s4.trans s5)) _ _ b2
    have x5 : Xc b H1 H5 := x1.trans (Xc.of (s3.trans (s4.trans s5)))
    refine ⟨.ref b, rfl, b, _, dx, _, rfl, b5, T.k_Book.cl, T.na_Book_moments, lp1, ?_⟩
    have np1 : (putF "made" (.ref z1) ([] : List (Str × V))).lookup ("p" : Str) = none := by rw [lookup_putF, if_neg (by decide +kernel)]; rfl
    have x6 : Xc b H5 (upd H5 b (.ins (adr mg "Book") dx (putF "moments" (.ref z5) (putF "made" (.ref z1) [])))) := xc_upd
    have b6 : (upd H5 b (.ins (adr mg "Book") dx (putF "moments" (.ref z5) (putF "made" (.ref z1) [])))) b = some (.ins (adr mg "Book") dx (putF "moments" (.ref z5) (putF "made" (.ref z1) []))) := upd_same
    generalize upd H5 b _ = H6 at x6 b6 ⊢
    refine ⟨Nat.zero_le _, fun z7 nz7 => ?_⟩
    generalize h7 : upd H6 z7 _ = H7
    obtain ⟨s7, e7⟩ := new_of h7 nz7
    have b7 := s7 _ _ b6
    refine ⟨.ref b, rfl, b, _, dx, _, rfl, b7, T.k_Book.cl, T.na_Book_done, lp2, ?_⟩
    have np2 : (putF "moments" (.ref z5) (putF "made" (.ref z1) ([] : List (Str × V)))).lookup ("p" : Str) = none := by rw [lookup_putF, if_neg (by decide +kernel)]; exact np1
    have x8 : Xc b H7 (upd H7 b (.ins (adr mg "Book") dx (putF "done" (.ref z7) (putF "moments" (.ref z5) (putF "made" (.ref z1) []))))) := xc_upd
    have b8 : (upd H7 b (.ins (adr mg "Book") dx (putF "done" (.ref z7) (putF "moments" (.ref z5) (putF "made" (.ref z1) []))))) b = some (.ins (adr mg "Book") dx (putF "done" (.ref z7) (putF "moments" (.ref z5) (putF "made" (.ref z1) [])))) := upd_same
    generalize upd H7 b _ = H8 at x8 b8 ⊢
    refine ⟨Nat.zero_le _, fun z9 nz9 => ?_⟩
    generalize h9 : upd H8 z9 _ = H9
    obtain ⟨s9, e9⟩ := new_of h9 nz9
    have b9 := s9 _ _ b8
    refine ⟨.ref b, rfl, b, _, dx, _, rfl, b9, T.k_Book.cl, T.na_Book_trials, lp3, ?_⟩
    have np3 : (putF "done" (.ref z7) (putF "moments" (.ref z5) (putF "made" (.ref z1) ([] : List (Str × V))))).lookup ("p" : Str) = none := by rw [lookup_putF, if_neg (by decide +kernel)]; exact np2
    refine ⟨.ref b, rfl, b, _, dx, _, rfl, upd_same, T.k_Book.cl, T.na_Book_amid, lp4, ?_⟩
    generalize he : upd (upd H9 b _) b _ = He
    have xe : Xc b H9 He := by rw [← he]; exact xc_upd.trans xc_upd
    have be : He b = some (.ins (adr mg "Book") dx (bookF z1 z5 z7 z9 false)) := by rw [← he]; exact upd_same
    have x78 := x8.trans ((Xc.of s9).trans xe)
    have x58 := x6.trans ((Xc.of s7).trans x78)
    have x18 := x5.trans x58
    have m18 : Mv mg H1 He := x18.mvI b1 rfl
    have m58 : Mv mg H5 He := x58.mvI b5 np1
    have m78 : Mv mg H7 He := x78.mvI b7 np2
    have m98 : Mv mg H9 He := xe.mvI b9 np3
    refine q He ((Xc.of s1).trans x18) ⟨⟨dx, z1, z5, z7, z9, [.ref a], be, m58.tk _ _ _ (.inl (.inl e5)), ⟨⟨a, rfl, (at4.same s5).mv m58⟩, trivial⟩, ?_, ?_, ?_⟩, ⟨?_, rfl⟩, rfl⟩
    · exact .tup (m78.tk _ _ _ (.inl (.inl e7))) .nil
    · exact .tup (m18.tk _ _ _ (.inl (.inl e1))) (.cons (.int p) (.cons (.int n) (.cons (dp_tk m18.tk _ _ (noL_handsT _) (dp_same s1 _ _ dh)) .nil)))
    · exact .tup (m98.tk _ _ _ (.inl (.inl e9))) .nil
    · show noL (.tuple [.int p, .int (n : Int), .tuple (hs.map handD)]) = true
      have := noL_hands hs
      simp only [noL, noLAll, this, Bool.and_true]
def sp_perform (K : PySem.W.Frag) (mg : Str → Option Value) (S : Str → Sp → Prop) : Sp := fun vs H Q _ => ∃ (b t : Addr) (q : BookS) (d : Deed) (x : Str) (xs : List V) (sp : Sp) (m m' : Mom), vs = [.ref b, .ref t] ∧ BookAt K mg H b q ∧ q.deeds.length < 60 ∧ SqT K H t (.str x :: xs) ∧ S x sp ∧ Dp K H (.ref t) (deedD d) ∧ q.moms[q.moms.length - 1]? = some m ∧
  (∀ a H' Q', Same H H' → MomAt K mg H' a m → (∀ H2 a', Same H' H2 → MomAt K mg H2 a' m' → Q' (.ref a') H2) → sp (.ref a :: xs) H' Q' E0) ∧ ∀ H', Xc b H H' → BookAt K mg H' b (q.push m' d) → Q .non H'
theorem ok_Book_perform (T : Top K mg) (W : StepsW w K mg) {S : Str → Sp → Prop} (hS : ∀ x sp, S x sp → ∃ f, KDct K w (adr mg "STEPS") x (.ref f) ∧ HeldR P w K mg base 9 f sp) : OkM P w K mg base 11 "Book" "perform" ["self", "deed"] [] (sp_perform K mg S) := by
  have O_Book_now := ok_Book_now (P := P) (w := w) (base := base) T
  have O_after := ok_after (P := P) (w := w) (base := base) T W hS
  refine T.d_Book_perform.ok sc_Book_perform (fun vs H Q E h => ?_) (fun f cdv A outer s H vs Q E hr h => ?_)
  · obtain ⟨b, t, q, d, x, xs, sp, m, m', rfl, _⟩ := h
    rfl
  · obtain ⟨b, t, q, d, x, xs, sp, m, m', rfl, B, few, ht, hs, dt, gm, hsp, k⟩ := h
    obtain ⟨⟨dx, w', t', u, v', ws, eb, h1, h2, h3, h4, h5⟩, nd, len⟩ := id B
    obtain ⟨wu, hu, du, lu⟩ := deeds_of h3
    refine ⟨_, ((pss_cons (ps_if (pt_cmpR op_ge (pe_callB call_len_seq (by rfl) T.b_len (by decide +kernel) (pa_cons (pe_fld (pv 0) (by rfl)) pa_nil)) (pe_cint T.c_DEEDS (by rfl)) (nomark _))
        (pss_one ps_dead)
        pss_nil)
      (pss_cons (ps_set (i := 2) sc_Book_perform.nd rfl (.inl rfl) (pe_callO O_after (hr.mono (by omega)) (by rfl) (pa_cons (pe_methO0 O_Book_now T.k_Book (hr.mono (by omega)) (pv 0)) (pa_cons (pv 1) pa_nil))))
      (pss_cons (ps_fld (pv 0) (pe_op op_catB (pe_fld (pv 0) (by rfl)) (pe_tup (pa_cons (pv 2) pa_nil))) (by rfl))
      (pss_one (ps_fld (pv 0) (pe_op op_catB (pe_fld (pv 0) (by rfl)) (pe_tup (pa_cons (pv 1) pa_nil))) (by rfl))))))), ?_⟩
    have ldu : decide ((60 : Int) ≤ (wu.length : Int)) = false := decide_eq_false (by omega)
    refine ⟨.ref b, rfl, b, _, dx, _, _, rfl, eb, T.k_Book.cl, T.na_Book_done, bookF_done, u, _, rfl, .inr hu, _, _, rfl, rfl, _, rfl, ?_⟩
    rw [ldu]
    refine iteF ?_
    refine ⟨.ref b, rfl, b, dx, _, rfl, eb, bookF_none (by decide +kernel) (by decide +kernel) (by decide +kernel) (by decide +kernel) (by decide +kernel), b, q, rfl, B, fun a ma gma hma => ?_⟩
    cases gm.symm.trans gma
    refine ⟨.ref t, rfl, a, t, x, xs, sp, rfl, ht, hs, fun H' sH => hsp a H' _ sH (hma.same sH) fun H2 a' s2 at2 => ?_⟩
    have s12 := sH.trans s2
    refine ⟨.ref b, rfl, b, _, dx, _, _, rfl, s12 _ _ eb, T.k_Book.cl, T.na_Book_moments, bookF_moments, .ref a', rfl, sz1000 (by decide : (1 : Nat) ≤ 1000), fun z3 nz3 => ?_⟩
    generalize h3' : upd H2 z3 _ = H3
    obtain ⟨s3, e3⟩ := new_of h3' nz3
    have lm := h2.len
    refine ⟨t', z3, _, _, rfl, rfl, Same.tup (s12.trans s3) h1, .inl (.inl e3), sz1000 (by simp only [List.length_cons, List.length_nil]; omega), fun z4 H4 s4 h4' => ?_⟩
    have s14 := s12.trans (s3.trans s4)
    refine ⟨.ref b, rfl, b, _, dx, _, rfl, s14 _ _ eb, T.k_Book.cl, T.na_Book_moments, by rw [bookF_len]; decide, ?_⟩
    rw [bookF_setMoments]
    have x5 : Xc b H4 (upd H4 b (.ins (adr mg "Book") dx (bookF w' z4 u v' q.amid))) := xc_upd
    have b5 : (upd H4 b (.ins (adr mg "Book") dx (bookF w' z4 u v' q.amid))) b = some (.ins (adr mg "Book") dx (bookF w' z4 u v' q.amid)) := upd_same
    generalize upd H4 b _ = H5 at x5 b5 ⊢
    have x15 : Xc b H H5 := (Xc.of s14).trans x5
    have m15 : Mv mg H H5 := x15.mv eb
    refine ⟨.ref b, rfl, b, _, dx, _, _, rfl, b5, T.k_Book.cl, T.na_Book_done, bookF_done, .ref t, rfl, sz1000 (by decide : (1 : Nat) ≤ 1000), fun z6 nz6 => ?_⟩
    generalize h6' : upd H5 z6 _ = H6
    obtain ⟨s6, e6⟩ := new_of h6' nz6
    refine ⟨u, z6, _, _, rfl, rfl, Same.tup s6 (m15.tk _ _ _ hu), .inl (.inl e6), sz1000 (by simp only [List.length_cons, List.length_nil]; omega), fun z7 H7 s7 h7' => ?_⟩
    have b7 := (s6.trans s7) _ _ b5
    refine ⟨.ref b, rfl, b, _, dx, _, rfl, b7, T.k_Book.cl, T.na_Book_done, by rw [bookF_len]; decide, ?_⟩
    rw [bookF_setDone]
    generalize he : upd H7 b _ = He
    have x7 : Xc b H7 He := by rw [← he]; exact xc_upd
    have be : He b = some (.ins (adr mg "Book") dx (bookF w' z4 z7 v' q.amid)) := by rw [← he]; exact upd_same
    have x5e := (Xc.of (s6.trans s7)).trans x7
    have xe := x15.trans x5e
    have me : Mv mg H He := xe.mv eb
    have m4e : Mv mg H4 He := (x5.trans x5e).mv (s14 _ _ eb)
    have m7e : Mv mg H7 He := x7.mv b7
    refine k He xe ⟨⟨dx, w', z4, z7, v', _, be, m4e.tk _ _ _ h4', MomsAt.append (h2.mv me) ⟨⟨a', rfl, (at2.same (s3.trans s4)).mv m4e⟩, trivial⟩, ?_, dp_tk me.tk _ _ nd.1 h4, dp_tk me.tk _ _ (noL_tup nd.2) h5⟩, nd, ?_⟩
    · refine .tup (m7e.tk _ _ _ h7') ?_
      show DpAll K He _ ((q.deeds ++ [d]).map deedD)
      rw [List.map_append]
      exact dpAll_append (dpAll_tk me.tk _ _ (noL_deeds _) du) (.cons (dp_tk me.tk _ _ (noL_deed d) dt) .nil)
    · show (q.moms ++ [m']).length = (q.deeds ++ [d]).length + 1
      rw [List.length_append, List.length_append, len]
      rfl
/-- the steps that have cards -/
def stepS (K : PySem.W.Frag) (mg : Str → Option Value) : Str → Sp → Prop := fun x sp => (x = "call" ∧ sp = sp_after_call K mg) ∨ (x = "whisper" ∧ sp = sp_after_whisper K mg)
theorem step_ok (T : Top K mg) (W : StepsW w K mg) : ∀ x sp, stepS K mg x sp → ∃ f, KDct K w (adr mg "STEPS") x (.ref f) ∧ HeldR P w K mg base 9 f sp := fun x sp h => by
  rcases h with ⟨rfl, rfl⟩ | ⟨rfl, rfl⟩
  · obtain ⟨f, g, hf⟩ := OkM.held ((ok_after_call (P := P) (w := w) (base := base) T).mono (show 7 ≤ 9 by decide))
    have := W.at_ "call" "after_call" (by decide +kernel)
    rw [adr_of g] at this
    exact ⟨f, this, hf⟩
  · obtain ⟨f, g, hf⟩ := OkM.held ((ok_after_whisper (P := P) (w := w) (base := base) T).mono (show 7 ≤ 9 by decide))
    have := W.at_ "whisper" "after_whisper" (by decide +kernel)
    rw [adr_of g] at this
    exact ⟨f, this, hf⟩
def sp_bcall (K : PySem.W.Frag) (mg : Str → Option Value) : Sp := fun vs H Q _ => ∃ (b e : Addr) (q : BookS) (x : Str) (r : List Int) (m : Mom), vs = [.ref b, .str x, .ref e] ∧ BookAt K mg H b q ∧ q.amid = false ∧ q.deeds.length < 60 ∧ q.moms[q.moms.length - 1]? = some m ∧ MomOk 900 m ∧ SqT K H e (r.map V.int) ∧ RowsOk m.p m.n [r] ∧ x ∈ m.hands.map Prod.fst ∧ hasR m.p m.n (plainR m.p m.n (heardM m [x])) r = true ∧
  ∀ H', Xc b H H' → BookAt K mg H' b (q.push (callM m r) (.call x r)) → Q .non H'
theorem ok_Book_call (T : Top K mg) (W : StepsW w K mg) : OkM P w K mg base 12 "Book" "call" ["self", "hand", "row"] [] (sp_bcall K mg) := by
  have O_Book_refuse_amid := ok_Book_refuse_amid (P := P) (w := w) (base := base) T
  have O_Book_perform := ok_Book_perform (P := P) (w := w) (base := base) T W (step_ok T W)
  refine T.d_Book_call.ok sc_Book_call (fun vs H Q E h => ?_) (fun f cdv A outer s H vs Q E hr h => ?_)
  · obtain ⟨b, e, q, x, r, m, rfl, _⟩ := h
    rfl
  · obtain ⟨b, e, q, x, r, m, rfl, B, am, few, gm, M, he, ok, mx, has, k⟩ := h
    obtain ⟨⟨dx, w', t', u, v', ws, eb, h1, h2, h3, h4, h5⟩, nd, len⟩ := id B
    refine ⟨_, ((pss_cons (ps_expr (pe_methO0 O_Book_refuse_amid T.k_Book (hr.mono (by omega)) (pv 0)))
      (pss_one (ps_expr (pe_methO O_Book_perform T.k_Book (hr.mono (by omega)) (pv 0) (pa_cons (pe_tup (pa_cons pe_str (pa_cons (pv 1) (pa_cons (pv 2) pa_nil)))) pa_nil)))))), ?_⟩
    refine ⟨.ref b, rfl, b, dx, _, rfl, eb, bookF_none (by decide +kernel) (by decide +kernel) (by decide +kernel) (by decide +kernel) (by decide +kernel), b, q, rfl, B, am, ?_⟩
    refine ⟨.ref b, rfl, b, dx, _, rfl, eb, bookF_none (by decide +kernel) (by decide +kernel) (by decide +kernel) (by decide +kernel) (by decide +kernel), .str x, rfl, .ref e, rfl, sz1000 (by decide : (3 : Nat) ≤ 1000), fun z1 nz1 => ?_⟩
    generalize h1' : upd H z1 _ = H1
    obtain ⟨s1, e1⟩ := new_of h1' nz1
    refine ⟨b, z1, q, .call x r, "call", _, _, m, callM m r, rfl, B.same s1, few, .inl (.inl e1), .inl ⟨rfl, rfl⟩, .tup (.inl (.inl e1)) (.cons (.str _) (.cons (.str x) (.cons (row_dp (Same.tup s1 he)) .nil))), gm, fun a H' Q' s' ma kk => ?_, fun H' x' B' => k H' ((Xc.of s1).trans x') B'⟩
    exact ⟨a, e, x, r, m, rfl, ma, M, Same.tup (s1.trans s') he, ok, mx, has, fun H2 a' s2 at2 => kk H2 a' s2 at2⟩
def sp_bwhisper (K : PySem.W.Frag) (mg : Str → Option Value) : Sp := fun vs H Q _ => ∃ (b c e : Addr) (q : BookS) (ns : List Str) (r : List Int) (m : Mom), vs = [.ref b, .ref c, .ref e] ∧ BookAt K mg H b q ∧ q.amid = false ∧ q.deeds.length < 60 ∧ q.moms[q.moms.length - 1]? = some m ∧ MomOk 900 m ∧ SqT K H e (r.map V.int) ∧ RowsOk m.p m.n [r] ∧ SqT K H c (ns.map V.str) ∧ ns.Pairwise sl ∧ 1 ≤ ns.length ∧ ns.length ≤ 100 ∧ (∀ x ∈ ns, x ∈ m.hands.map Prod.fst) ∧
  ∀ H', Xc b H H' → BookAt K mg H' b (q.push (whisperM m ns r) (.whisper ns r)) → Q .non H'
theorem ok_Book_whisper (T : Top K mg) (W : StepsW w K mg) : OkM P w K mg base 12 "Book" "whisper" ["self", "hands", "row"] [] (sp_bwhisper K mg) := by
  have O_Book_refuse_amid := ok_Book_refuse_amid (P := P) (w := w) (base := base) T
  have O_Book_perform := ok_Book_perform (P := P) (w := w) (base := base) T W (step_ok T W)
  refine T.d_Book_whisper.ok sc_Book_whisper (fun vs H Q E h => ?_) (fun f cdv A outer s H vs Q E hr h => ?_)
  · obtain ⟨b, c, e, q, ns, r, m, rfl, _⟩ := h
    rfl
  · obtain ⟨b, c, e, q, ns, r, m, rfl, B, am, few, gm, M, he, ok, hn, srt, n1, n100, inn, k⟩ := h
    obtain ⟨⟨dx, w', t', u, v', ws, eb, h1, h2, h3, h4, h5⟩, nd, len⟩ := id B
    refine ⟨_, ((pss_cons (ps_expr (pe_methO0 O_Book_refuse_amid T.k_Book (hr.mono (by omega)) (pv 0)))
      (pss_one (ps_expr (pe_methO O_Book_perform T.k_Book (hr.mono (by omega)) (pv 0) (pa_cons (pe_tup (pa_cons pe_str (pa_cons (pv 1) (pa_cons (pv 2) pa_nil)))) pa_nil)))))), ?_⟩
    refine ⟨.ref b, rfl, b, dx, _, rfl, eb, bookF_none (by decide +kernel) (by decide +kernel) (by decide +kernel) (by decide +kernel) (by decide +kernel), b, q, rfl, B, am, ?_⟩
    refine ⟨.ref b, rfl, b, dx, _, rfl, eb, bookF_none (by decide +kernel) (by decide +kernel) (by decide +kernel) (by decide +kernel) (by decide +kernel), .ref c, rfl, .ref e, rfl, sz1000 (by decide : (3 : Nat) ≤ 1000), fun z1 nz1 => ?_⟩
    generalize h1' : upd H z1 _ = H1
    obtain ⟨s1, e1⟩ := new_of h1' nz1
    refine ⟨b, z1, q, .whisper ns r, "whisper", _, _, m, whisperM m ns r, rfl, B.same s1, few, .inl (.inl e1), .inr ⟨rfl, rfl⟩, .tup (.inl (.inl e1)) (.cons (.str _) (.cons (.tup (Same.tup s1 hn) (dpAll_strs ns)) (.cons (row_dp (Same.tup s1 he)) .nil))), gm, fun a H' Q' s' ma kk => ?_, fun H' x' B' => k H' ((Xc.of s1).trans x') B'⟩
    exact ⟨a, e, c, ns, r, m, rfl, ma, M, Same.tup (s1.trans s') he, ok, Same.tup (s1.trans s') hn, srt, n1, n100, inn, fun H2 a' s2 at2 => kk H2 a' s2 at2⟩
def sp_neededL (K : PySem.W.Frag) : Sp := fun vs H Q _ => ∃ (a : Addr) (ws : List V) (rs : List (List Int)) (p : Int) (n : Nat), vs = [.int p, .int (n : Int), .ref a] ∧ SqT K H a ws ∧ DpAll K H ws (rs.map rowD) ∧ rs.length ≤ 990 ∧ RowsOk p n rs ∧ Fld p ∧ p ≤ 1000 ∧ n ≤ 100 ∧
  ∀ (H' : Hp) (l : Addr), Same H H' → H' l = some (.tup (numsV (needR p n rs))) → Q (.ref l) H'
theorem ok_neededL (T : Top K mg) : Ok P w K mg base 5 "needed" ["p", "n", "rows"] (sp_neededL K) := by
  have O_within := ok_within (P := P) (w := w) (base := base) T
  have O_widened := ok_widened (P := P) (w := w) (base := base) T
  refine T.d_needed.ok sc_needed (fun vs H Q E h => ?_) (fun f cdv A outer s H vs Q E hr h => ?_)
  · obtain ⟨a, ws, rs, p, n, rfl, _⟩ := h
    rfl
  · obtain ⟨a, ws, rs, p, n, rfl, hA, hR, hl, hro, hF, hp, hn, q⟩ := h
    have h2 := hF.1
    refine ⟨_, ((pss_cons (ps_set (i := 3) sc_needed.nd rfl (.inl rfl) (pe_lst pa_nil))
      (pss_cons (ps_set (i := 4) sc_needed.nd rfl (.inl rfl) (pe_tup pa_nil))
      (pss_cons (ps_for PassesOwn.never (by rfl) (pi_enumT (by rfl) T.b_enumerate (pa_cons (pv 2) pa_nil)) (pg_tup (by rfl) (pgs_cons (pg_name (i := 5) sc_needed.nd rfl (.inl rfl)) (pgs_cons (pg_name (i := 6) sc_needed.nd rfl (.inl rfl)) pgs_nil)))
        (pss_one (ps_if (pt_not (pt_val (pe_callO O_within (hr.mono (by omega)) (by rfl) (pa_cons (pv 0) (pa_cons (pv 4) (pa_cons (pv 6) pa_nil))))))
          (pss_cons (ps_expr (pe_bm PySem.F.plainAttrs_list PySem.F.slot_list_append PySem.F.type_list_append mt_append (pv 3) (pa_cons (pv 5) pa_nil)))
          (pss_one (ps_set (i := 4) sc_needed.nd rfl (.inl rfl) (pe_callO O_widened (hr.mono (by omega)) (by rfl) (pa_cons (pv 0) (pa_cons (pv 4) (pa_cons (pv 6) pa_nil)))))))
          pss_nil)))
      (pss_one (ps_ret (pe_callTy call_tuple_of (by rfl) T.b_tuple (by decide +kernel) (pa_cons (pv 3) pa_nil)))))))), ?_⟩
    have lw := rows_len hR
    refine ⟨Nat.zero_le _, fun o no => ?_⟩
    generalize h1 : upd H o _ = H1
    obtain ⟨s1, e1⟩ := new_of h1 no
    refine ⟨Nat.zero_le _, fun z nz => ?_⟩
    generalize hh : upd H1 z _ = H2
    obtain ⟨s2, e2⟩ := new_of hh nz
    have s12 := s1.trans s2
    refine ⟨.ref a, rfl, a, _, rfl, Same.tup s12 hA, for_it (walk_enumT (K := K) (a := a) (xs := ws)) (fun k σ H' => Same H H' ∧ ∃ (y5 y6 : Option V) (b : Addr), RowsAt K H' b (plainR p n (rs.take k)) ∧ H' o = some (.lst (numsV (needR p n (rs.take k)))) ∧ σ = [some (.int p), some (.int (n : Int)), some (.ref a), some (.ref o), some (.ref b), y5, y6])
      ⟨s12, none, none, z, ⟨[], .inl (.inl e2), ?_⟩, ?_, rfl⟩ (fun k σ H' _ hW => Same.tup hW.1 hA) (fun k v σ H3 H4 hk hW hY => ?_) (fun σ H3 hW => ?_)⟩
    · rw [List.take_zero, plainR_nil]
      exact .nil
    · rw [List.take_zero]
      exact s2 _ _ e1
    · obtain ⟨s3, y5, y6, b, hb, eo, rfl⟩ := hW
      obtain ⟨Ta, x, y, rfl, nT, rfl, g1, g2⟩ := hY
      have g1 : x = V.int (k : Nat) := (Option.some.inj g1).symm
      have g2 : ws[k]? = some y := g2
      obtain ⟨c, r, rfl, gr, mr, hc⟩ := dpAll_row (dpAll_same s3 _ _ hR) g2
      subst g1
      have sT : Same H3 (upd H3 Ta (.tup [.int (k : Nat), .ref c])) := same_upd nT
      generalize hT : upd H3 Ta (.tup [.int (k : Nat), .ref c]) = HT at sT
      have eT : HT Ta = some (.tup [.int (k : Nat), .ref c]) := by rw [← hT]; exact upd_same
      refine ⟨Ta, [.int (k : Nat), .ref c], rfl, .inl (.inl eT), rfl, .int (k : Nat), [.ref c], rfl, .ref c, [], rfl, rfl, ?_⟩
      have hk' : k < rs.length := by omega
      have er : rs[k] = r := by
        rw [List.getElem?_eq_getElem hk'] at gr
        exact Option.some.inj gr
      have okt : RowsOk p n (rs.take k) := fun x hx => hro x (List.mem_of_mem_take hx)
      have okr : RowsOk p n [r] := rowsOk_one (hro r mr)
      have pf := PFR.of_plain hF okt
      have eapp : rs.take (k + 1) = rs.take k ++ [r] := by
        rw [List.take_add_one, gr]
        rfl
      have epl : plainR p n (plainR p n (rs.take k) ++ [r]) = plainR p n (rs.take (k + 1)) := by
        rw [eapp]
        exact plainR_app hF okt okr
      refine ⟨.int p, rfl, .ref b, rfl, .ref c, rfl, c, b, plainR p n (rs.take k), r, p, n, rfl, RowsAt.same sT hb, Same.tup sT hc, pf, okr, hF, hn, hp, fun H5 s5 => ?_⟩
      have eo5 := s5 _ _ (sT _ _ eo)
      have t5 := (s3.trans sT).trans s5
      have hh5 : hasR p n (plainR p n (rs.take k)) r = decide ((plainR p n (rs.take (k + 1))).length = (plainR p n (rs.take k)).length) := by
        unfold hasR
        rw [epl, pf.2]
      rw [hh5]
      have en := need_take p n rs k hk'
      have lk : (needR p n (rs.take k)).length ≤ k := by
        have h1 : (needR p n (rs.take k)).length ≤ (List.range (rs.take k).length).length := List.length_filter_le _ _
        rw [List.length_range, List.length_take] at h1
        omega
      have mono : (plainR p n (rs.take k)).length < (plainR p n (rs.take (k + 1))).length ∨ (plainR p n (rs.take (k + 1))).length = (plainR p n (rs.take k)).length := by
        rw [eapp]
        obtain ⟨q', rfl, _, hF'⟩ := to_q hF
        by_cases hm : Mk q' (rs.take k) (toV r)
        · exact .inr ((plainR_has hF' okt okr).mpr hm)
        · exact .inl ((plainR_grows hF' okt okr).mpr hm)
      refine ⟨_, rfl, ?_⟩
      rcases mono with hlt | heq
      · have n1 : 1 ≤ n := by
          have := plainR_lenle hF (show RowsOk p n (rs.take (k + 1)) by rw [eapp]; exact rowsOk_app okt okr)
          omega
        rw [decide_eq_false (by omega)]
        rw [if_pos hlt] at en
        refine iteT ⟨.ref o, rfl, .inl ⟨rfl, _, .inl (.inl eo5)⟩, .int (k : Nat), rfl, o, _, _, rfl, rfl, eo5, ?_, ?_⟩
        · exact small1000 (by rw [numsV, List.length_map]; omega)
        have tk : Tk H5 (upd H5 o (.lst (numsV (needR p n (rs.take k)) ++ [V.int (k : Nat)]))) := Tk.mut (Tk.refl H5) eo5
        have sH : Same H (upd H5 o (.lst (numsV (needR p n (rs.take k)) ++ [V.int (k : Nat)]))) := same_mut t5 no
        generalize hU : upd H5 o (.lst (numsV (needR p n (rs.take k)) ++ [V.int (k : Nat)])) = HU at tk sH
        have eU : HU o = some (.lst (numsV (needR p n (rs.take k)) ++ [V.int (k : Nat)])) := by rw [← hU]; exact upd_same
        obtain ⟨ws5, b1, b2⟩ := RowsAt.same (sT.trans s5) hb
        have hbU : RowsAt K HU b (plainR p n (rs.take k)) := ⟨ws5, tk K _ _ b1, dpAll_tk tk _ _ (noL_rows _) b2⟩
        have hcU := tk K _ _ (Same.tup (sT.trans s5) hc)
        refine ⟨.int p, rfl, .ref b, rfl, .ref c, rfl, c, b, plainR p n (rs.take k), r, p, n, rfl, hbU, hcU, pf, okr, hF, n1, hn, hp, fun H6 l s6 h6 => ?_⟩
        rw [epl] at h6
        refine ⟨sH.trans s6, _, _, l, h6, ?_, rfl⟩
        rw [en, s6 _ _ eU]
        show some (HO.lst (numsV (needR p n (rs.take k)) ++ [V.int (k : Int)])) = some (HO.lst (numsV (needR p n (rs.take k) ++ [k])))
        rw [show numsV (needR p n (rs.take k) ++ [k]) = numsV (needR p n (rs.take k)) ++ [V.int (k : Int)] from List.map_append]
      · rw [decide_eq_true heq]
        rw [if_neg (by omega), List.append_nil] at en
        have esame : plainR p n (rs.take (k + 1)) = plainR p n (rs.take k) := by
          rw [← epl]
          have hz := (PFR.left_has hF pf okr).mpr (by rw [epl, pf.2]; exact heq)
          exact (pf.widen0 hF okr hz).symm
        refine iteF ⟨t5, _, _, b, ?_, ?_, rfl⟩
        · rw [esame]
          exact RowsAt.same (sT.trans s5) hb
        · rw [en]
          exact eo5
    · obtain ⟨s3, y5, y6, b, hb, eo, rfl⟩ := hW
      rw [List.take_of_length_le (by omega)] at eo
      refine ⟨.ref o, rfl, o, _, rfl, .inl ⟨.inl (.inl eo), fun l nl => ?_⟩⟩
      generalize h2 : upd H3 l _ = H2
      obtain ⟨s2, e2⟩ := new_of h2 nl
      exact q H2 l (s3.trans s2) e2
def sp_news (K : PySem.W.Frag) (mg : Str → Option Value) : Sp := fun vs H Q _ => ∃ (a r o : Addr) (m : Mom) (rows room : List (List Int)), vs = [.ref a, .ref r, .ref o] ∧ MomAt K mg H a m ∧ RowsAt K H r rows ∧ RowsAt K H o room ∧ RowsOk m.p m.n rows ∧ RowsOk m.p m.n room ∧ Fld m.p ∧ m.p ≤ 1000 ∧ m.n ≤ 8 ∧ rows.length ≤ 950 ∧ room.length ≤ 8 ∧
  ∀ H' l, Same H H' → RowsAt K H' l (newsR m.p m.n rows room) → Q (.ref l) H'
theorem ok_news (T : Top K mg) : Ok P w K mg base 6 "news" ["moment", "rows", "room"] (sp_news K mg) := by
  have O_needed := ok_neededL (P := P) (w := w) (base := base) T
  refine T.d_news.ok sc_news (fun vs H Q E h => ?_) (fun f cdv A outer s H vs Q E hr h => ?_)
  · obtain ⟨a, r, o, m, rows, room, rfl, _⟩ := h
    rfl
  · obtain ⟨a, r0, o0, m, rows, room, rfl, ma, hr0, ho0, ok1, ok2, F, p1, n8, l9, l8, q⟩ := h
    obtain ⟨dx, c, h, ea, hc, hh⟩ := id ma
    refine ⟨_, ((pss_cons (ps_set (i := 3) sc_news.nd rfl (.inr rfl) (pe_op op_catB (pv 1) (pv 2)))
      (pss_one (ps_ret (pe_callTy call_tuple_of (by rfl) T.b_tuple (by decide +kernel) (pa_cons (pe_lc (own := [("number", 4)]) (g := gName 4) (by rfl) sc_news.nd (pi_tup (pe_callO O_needed (hr.mono (by omega)) (by rfl) (pa_cons (pe_fld (pv 0) (by rfl)) (pa_cons (pe_fld (pv 0) (by rfl)) (pa_cons (pv 3) pa_nil))))) (blkOk_by (own := [("number", 4)]) (N := N_news) (sc := defScope s_news) (by decide +kernel)) (fun _ _ _ _ _ => (pg_name (i := 4) sc_news.nd rfl (.inl rfl))) (fun _ _ _ _ _ => (pts_one (pt_cmpR op_ge (pv 4) (pe_callB (show CallR _ (.builtin "len") (rLenQ K) from call_len_seq) (by rfl) T.b_len (by decide +kernel) (pa_cons (pv 1) pa_nil)) (nomark _)))) (fun _ _ _ _ _ => (pe_ix (show IxR _ (rIxT K) from ix_tup) (pv 3) (pv 4) (fun _ _ => rfl)))) pa_nil)))))), ?_⟩
    have F1 : ∀ {H' : Hp}, Same H H' → H' a = some (.ins (adr mg "Moment") dx (momF m.p m.n c h)) := fun s => s _ _ ea
    obtain ⟨wk, hk1, hk2⟩ := hr0
    obtain ⟨wc, hc1, hc2⟩ := ho0
    have lwk := rows_len hk2
    have lwc := rows_len hc2
    refine ⟨.ref r0, rfl, .ref o0, rfl, r0, o0, wk, wc, rfl, rfl, hk1, hc1, sz1000 (by omega), fun r H3 s3 h3 => ?_⟩
    have okr : RowsOk m.p m.n (rows ++ room) := rowsOk_app ok1 ok2
    have dr : DpAll K H3 (wk ++ wc) ((rows ++ room).map rowD) := by
      rw [List.map_append]
      exact dpAll_append (dpAll_same s3 _ _ hk2) (dpAll_same s3 _ _ hc2)
    refine ⟨.ref a, rfl, a, _, dx, _, _, rfl, F1 s3, T.k_Moment.cl, T.na_Moment_p, momF_p, .ref a, rfl, a, _, dx, _, _, rfl, F1 s3, T.k_Moment.cl, T.na_Moment_n, momF_n, .ref r, rfl, r, wk ++ wc, rows ++ room, m.p, m.n, rfl, h3, dr, by rw [List.length_append]; omega, okr, F, p1, by omega, fun H4 t s4 e4 => ?_⟩
    have lneed : (needR m.p m.n (rows ++ room)).length ≤ 1000 := by
      unfold needR
      refine Nat.le_trans (List.length_filter_le _ _) ?_
      rw [List.length_range, List.length_append]
      omega
    have elt : ∀ k ∈ needR m.p m.n (rows ++ room), k < (rows ++ room).length := fun k hk => needR_lt hk
    have eS : newsR m.p m.n rows room = ((needR m.p m.n (rows ++ room)).filter fun k => decide (rows.length ≤ k)).map fun k => (rows ++ room).getD k [] := rfl
    rw [eS] at q
    have s14 := s3.trans s4
    have hk4 := Same.tup s14 hk1
    have h34 := Same.tup s4 h3
    have dr4 := dpAll_same s4 _ _ dr
    have lrw : (wk ++ wc).length = (rows ++ room).length := rows_len dr
    have e4 : H4 t = some (.tup (numsV (needR m.p m.n (rows ++ room)))) := e4
    generalize (rows ++ room) = rs at q e4 lneed elt dr4 lrw
    generalize needR m.p m.n rs = nd at q e4 lneed elt
    refine ⟨t, rfl, ⟨_, .inl (.inl e4)⟩, fun D nD => lc_it (walk_tup (K := K) (a := t) (xs := numsV nd)) (fun k H' => Same H4 H' ∧ ∃ us, H' D = some (.lst us) ∧ us.length ≤ k ∧ DpAll K H' us (((((nd.take k).filter fun k => decide (rows.length ≤ k)).map fun k => rs.getD k [])).map rowD)) ⟨same_upd nD, [], upd_same, Nat.le_refl _, .nil⟩ (fun k H' _ hP => .inl (.inl (hP.1 _ _ e4))) (fun k x H6 H5 hk hP hY => ?_) (fun H5 hP => ?_)⟩
    · obtain ⟨rfl, hx⟩ := hY
      obtain ⟨s5, us, eD, lu, du⟩ := hP
      unfold numsV at hx
      rw [List.getElem?_map] at hx
      obtain ⟨j, gj, rfl⟩ := Option.map_eq_some_iff.mp hx
      have hj := elt j (List.mem_of_getElem? gj)
      have hkl : k < nd.length := (List.getElem?_eq_some_iff.mp gj).1
      refine ⟨rfl, .int j, rfl, .ref r0, rfl, r0, wk, rfl, .inr (Same.tup s5 hk4), _, _, rfl, rfl, _, rfl, ?_⟩
      have ej : decide ((j : Int) ≥ (wk.length : Int)) = decide (rows.length ≤ j) := decide_eq_decide.mpr (by omega)
      rw [ej]
      have tk : ((nd.take (k + 1)).filter fun k => decide (rows.length ≤ k)) = ((nd.take k).filter fun k => decide (rows.length ≤ k)) ++ (if rows.length ≤ j then [j] else []) := by
        rw [List.take_add_one, gj, List.filter_append]
        congr 1
        by_cases hq : rows.length ≤ j
        · simp [hq]
        · simp [hq]
      by_cases hq : rows.length ≤ j
      · rw [decide_eq_true hq]
        rw [if_pos hq] at tk
        have gw : (wk ++ wc)[j]? = some ((wk ++ wc)[j]'(by omega)) := List.getElem?_eq_getElem (by omega)
        obtain ⟨c, g, ec, gr, mg, hc⟩ := dpAll_row (dpAll_same s5 _ _ dr4) gw
        rw [ec] at gw
        refine iteT ⟨.ref r, rfl, .int j, rfl, r, wk ++ wc, _, .ref c, rfl, rfl, Same.tup s5 h34, at_of (j := j) (by omega) gw, us, eD, small1000 (by omega), ?_⟩
        have tkk : Tk H5 (upd H5 D (.lst (us ++ [.ref c]))) := (Tk.refl _).mut eD
        refine ⟨same_mut s5 nD, us ++ [.ref c], upd_same, by rw [List.length_append]; simp only [List.length_cons, List.length_nil]; omega, ?_⟩
        rw [tk, List.map_append, List.map_append]
        have eg : rs.getD j [] = g := by rw [List.getD_eq_getElem?_getD, gr]; rfl
        have hcD : Dp K (upd H5 D (.lst (us ++ [.ref c]))) (.ref c) (rowD (rs.getD j [])) := by
          rw [eg]
          exact row_dp (tkk _ _ _ hc)
        exact dpAll_append (dpAll_tk tkk _ _ (noL_rows _) du) (.cons hcD .nil)
      · rw [decide_eq_false hq]
        rw [if_neg hq, List.append_nil] at tk
        refine iteF ⟨s5, us, eD, by omega, ?_⟩
        rw [tk]
        exact du
    · obtain ⟨s5, us, eD, lu, du⟩ := hP
      unfold numsV at du
      rw [List.length_map, List.take_of_length_le (Nat.le_refl _)] at du
      refine ⟨D, us, rfl, .inl ⟨.inl (.inl eD), fun u nu => ?_⟩⟩
      dsimp only
      generalize h6 : upd H5 u _ = H6
      obtain ⟨s6, e6⟩ := new_of h6 nu
      exact q H6 u (s14.trans (s5.trans s6)) ⟨us, .inl (.inl e6), dpAll_same s6 _ _ du⟩
def sp_after_meet (K : PySem.W.Frag) (mg : Str → Option Value) : Sp := fun vs H Q _ => ∃ (a c : Addr) (ns : List Str) (m : Mom), vs = [.ref a, .ref c] ∧ MomAt K mg H a m ∧ MomOk 900 m ∧ SqT K H c (ns.map V.str) ∧ ns.Pairwise sl ∧ 2 ≤ ns.length ∧ ns.length ≤ 100 ∧ (∀ x ∈ ns, x ∈ m.hands.map Prod.fst) ∧
  ∀ H' a', Same H H' → MomAt K mg H' a' (meetM m ns) → Q (.ref a') H'
theorem ok_after_meet (T : Top K mg) : Ok P w K mg base 8 "after_meet" ["moment", "hands"] (sp_after_meet K mg) := by
  have O_check_hands := ok_check_hands (P := P) (w := w) (base := base) T
  have O_names_at := ok_names_at (P := P) (w := w) (base := base) T
  have O_known_at := ok_known_at (P := P) (w := w) (base := base) T
  have O_news := ok_news (P := P) (w := w) (base := base) T
  have O_Moment___init__ := ok_Moment___init__ (P := P) (w := w) (base := base) T
  refine T.d_after_meet.ok sc_after_meet (fun vs H Q E h => ?_) (fun f cdv A outer s H vs Q E hr h => ?_)
  · obtain ⟨a, c, ns, m, rfl, _⟩ := h
    rfl
  · obtain ⟨a, cn, ns, m, rfl, ma, M, hn, srt, n1, n100, inn, q⟩ := h
    obtain ⟨dx, c, h, ea, hc, hh⟩ := id ma
    refine ⟨_, ((pss_cons (ps_expr (pe_callO O_check_hands (hr.mono (by omega)) (by rfl) (pa_cons (pe_callO O_names_at (hr.mono (by omega)) (by rfl) (pa_cons (pv 0) pa_nil)) (pa_cons (pv 1) (pa_cons pe_int pa_nil)))))
      (pss_cons (ps_set (i := 2) sc_after_meet.nd rfl (.inr rfl) (pe_callO O_known_at (hr.mono (by omega)) (by rfl) (pa_cons (pv 0) (pa_cons (pv 1) pa_nil))))
      (pss_cons (ps_setLc (i := 5) (own := [("name", 3), ("rows", 4)]) (g := gTup K 2 (gCons (gName 3) (gCons (gName 4) gNil))) (by rfl) sc_after_meet.nd rfl rfl (sw_true rfl rfl rfl (by decide +kernel)) (pi_tup (pe_fld (pv 0) (by rfl))) (blkOk_by (own := [("name", 3), ("rows", 4)]) (N := N_after_meet) (sc := defScope s_after_meet) (by decide +kernel)) (fun _ _ _ _ _ => (pg_tup (by rfl) (pgs_cons (pg_name (i := 3) sc_after_meet.nd rfl (.inl rfl)) (pgs_cons (pg_name (i := 4) sc_after_meet.nd rfl (.inl rfl)) pgs_nil)))) (fun _ _ _ _ _ => pts_nil) (fun _ _ _ _ _ => (pe_tup (pa_cons (pv 3) (pa_cons (pe_ifExp (pt_cmpR (show OpR _ (compareOp .In) (rIn K false) from op_in_seq) (pv 3) (pv 1) (by rfl)) (pe_op (show OpR _ (binaryOp .Add) (rCatB K) from op_catB) (pv 4) (pe_callO O_news (hr.mono (by omega)) (by rfl) (pa_cons (pv 0) (pa_cons (pv 4) (pa_cons (pv 2) pa_nil))))) (pv 4)) pa_nil)))))
      (pss_one (ps_ret (pe_makeO O_Moment___init__ T.k_Moment (hr.mono (by omega)) (by rfl) (pa_cons (pe_fld (pv 0) (by rfl)) (pa_cons (pe_fld (pv 0) (by rfl)) (pa_cons (pe_fld (pv 0) (by rfl)) (pa_cons (pe_callTy call_tuple_of (by rfl) T.b_tuple (by decide +kernel) (pa_cons (pv 5) pa_nil)) pa_nil))))))))))), ?_⟩
    have many := M.many
    have n8 := M.n8
    have F1 : ∀ {H' : Hp}, Same H H' → H' a = some (.ins (adr mg "Moment") dx (momF m.p m.n c h)) := fun s => s _ _ ea
    refine ⟨.ref a, rfl, a, m, rfl, ma, by omega, fun H1 l1 s1 h1 => ?_⟩
    refine ⟨.ref cn, rfl, l1, cn, _, ns, 2, rfl, h1, Same.tup s1 hn, fun x hx => M.nm x (inn x hx), srt, n100, by omega, inn, fun H1' s1' => ?_⟩
    have s11 := s1.trans s1'
    refine ⟨.ref a, rfl, .ref cn, rfl, a, cn, m, ns, rfl, MomAt.same s11 ma, Same.tup s11 hn, M.mono (by decide), fun H5 oR s5 hR => ?_⟩
    have s15 := s11.trans s5
    have pk := PFR.of_plain M.fld (heard_okM M ns)
    have lpk := PFR.len M.fld pk
    obtain ⟨wg, hg, dg, lg⟩ := mom_hands hh
    refine ⟨.ref a, rfl, a, _, dx, _, _, rfl, F1 s15, T.k_Moment.cl, T.na_Moment_hands, momF_hands, h, rfl, ⟨_, Same.tup s15 hg⟩, fun D nD => lc_it (walk_tup (K := K) (a := h) (xs := wg)) (fun i H' => Same H5 H' ∧ ∃ ws : List V, H' D = some (.lst ws) ∧ ws.length = i ∧ DpAll K H' ws (((meetM m ns).hands.take i).map handD)) ⟨same_upd nD, [], upd_same, rfl, .nil⟩ (fun i H' _ hP => Same.tup (s15.trans hP.1) hg) (fun i v Ha Hb hi hP hY => ?_) (fun H6 hP => ?_)⟩
    · obtain ⟨rfl, hx⟩ := hY
      obtain ⟨s6, ws, eD, lw, dl⟩ := hP
      have s16 := s15.trans s6
      obtain ⟨c', rr, y, rfl, gy, my, hc', hrr⟩ := dpAll_hand (dpAll_same s16 _ _ dg) hx
      obtain ⟨w2, hr1, hr2⟩ := hrr
      have l2 := rows_len hr2
      have ly := M.lh y my
      have hi : i < m.hands.length := (List.getElem?_eq_some_iff.mp gy).1
      refine ⟨c', _, rfl, hc', rfl, _, _, rfl, _, _, rfl, rfl, rfl, .str y.1, rfl, .str y.1, rfl, .ref cn, rfl, cn, _, rfl, .inr (Same.tup s16 hn), rfl, flat_strs ns, _, rfl, ?_⟩
      rw [show (if false = true then !inV (V.str y.1) (ns.map V.str) else inV (V.str y.1) (ns.map V.str)) = decide (y.1 ∈ ns) from in_strs y.1 ns]
      -- the hand's new pair
      have fin : ∀ {H8 : Hp} (z8 : Addr) (rs : List (List Int)) (w8 : List V), (Same Hb H8) → SqT K H8 z8 w8 → DpAll K H8 w8 (rs.map rowD) → (meetM m ns).hands[i]? = some (y.1, rs) → ∀ {H9 : Hp} (z9 : Addr), Same H8 H9 → H9 z9 = some (.tup [.str y.1, .ref z8]) →
          ∃ acc, H9 D = some (.lst acc) ∧ acc.length < sizeLine ∧ (Same H5 (upd H9 D (.lst (acc ++ [.ref z9]))) ∧ ∃ ws : List V, (upd H9 D (.lst (acc ++ [.ref z9]))) D = some (.lst ws) ∧ ws.length = i + 1 ∧ DpAll K (upd H9 D (.lst (acc ++ [.ref z9]))) ws (((meetM m ns).hands.take (i + 1)).map handD)) := fun {H8} z8 rs w8 s8 h8 d8 gr {H9} z9 s9 e9 => by
        have s79 := s8.trans s9
        have eD9 := s79 _ _ eD
        have tk := (Tk.refl H9).mut eD9 (ys := ws ++ [.ref z9])
        refine ⟨ws, eD9, small1000 (by omega), same_mut (s6.trans s79) nD, ws ++ [.ref z9], upd_same, by rw [List.length_append, lw]; rfl, ?_⟩
        rw [List.take_add_one, gr, List.map_append]
        exact dpAll_append (dpAll_tk tk _ _ (noL_hands _) (dpAll_same s79 _ _ dl)) (.cons (.tup (tk _ _ _ (.inl (.inl e9))) (.cons (.str _) (.cons (.tup (tk _ _ _ (Same.tup s9 h8)) (dpAll_tk tk _ _ (noL_rows _) (dpAll_same s9 _ _ d8))) .nil))) .nil)
      have gr : (meetM m ns).hands[i]? = some (if y.1 ∈ ns then (y.1, y.2 ++ newsR m.p m.n y.2 (plainR m.p m.n (heardM m ns))) else y) := by
        unfold meetM
        rw [List.getElem?_map, gy]
        rfl
      by_cases hm : y.1 ∈ ns
      · rw [if_pos hm] at gr
        rw [decide_eq_true hm]
        refine iteT ⟨.ref rr, rfl, .ref a, rfl, .ref rr, rfl, .ref oR, rfl, a, rr, oR, m, y.2, _, rfl, MomAt.same s16 ma, ⟨w2, hr1, hr2⟩, hR.same s6, M.okh y my, pk.rows, M.fld, M.p1, n8, by omega, by omega, fun H7 l7 s7 h7 => ?_⟩
        obtain ⟨w7, h71, h72⟩ := h7
        have l7n := rows_len h72
        have lnew := news_len (p := m.p) (n := m.n) (rows := y.2) (room := plainR m.p m.n (heardM m ns))
        refine ⟨rr, l7, w2, w7, rfl, rfl, Same.tup s7 hr1, h71, sz1000 (by omega), fun z8 H8 s8 h8 => ?_⟩
        refine ⟨sz1000 (by decide : (2 : Nat) ≤ 1000), fun z9 nz9 => ?_⟩
        generalize h9 : upd H8 z9 _ = H9
        obtain ⟨s9, e9⟩ := new_of h9 nz9
        refine fin z8 (y.2 ++ newsR m.p m.n y.2 (plainR m.p m.n (heardM m ns))) _ (s7.trans s8) h8 ?_ gr z9 s9 e9
        rw [List.map_append]
        exact dpAll_append (dpAll_same (s7.trans s8) _ _ hr2) (dpAll_same s8 _ _ h72)
      · rw [if_neg hm] at gr
        rw [decide_eq_false hm]
        refine iteF ⟨.ref rr, rfl, sz1000 (by decide : (2 : Nat) ≤ 1000), fun z9 nz9 => ?_⟩
        generalize h9 : upd _ z9 _ = H9
        obtain ⟨s9, e9⟩ := new_of h9 nz9
        exact fin rr y.2 _ (Same.refl _) hr1 hr2 gr z9 s9 e9
    · obtain ⟨s6, ws, eD, lw, dl⟩ := hP
      have lr2 : (meetM m ns).hands.length = m.hands.length := by unfold meetM; rw [List.length_map]
      rw [List.take_of_length_le (by omega)] at dl
      have s17 := s15.trans s6
      refine ⟨.ref a, rfl, a, _, dx, _, _, rfl, F1 s17, T.k_Moment.cl, T.na_Moment_p, momF_p, .ref a, rfl, a, _, dx, _, _, rfl, F1 s17, T.k_Moment.cl, T.na_Moment_n, momF_n, ?_⟩
      refine ⟨.ref a, rfl, a, _, dx, _, _, rfl, F1 s17, T.k_Moment.cl, T.na_Moment_called, momF_called, .ref D, rfl, D, _, rfl, .inl ⟨.inl (.inl eD), fun t nt => ?_⟩⟩
      generalize h7 : upd H6 t _ = H7
      obtain ⟨s7, e7⟩ := new_of h7 nt
      exact made_mom (m' := meetM m ns) (RowsAt.same (s17.trans s7) hc) (.tup (.inl (.inl e7)) (dpAll_same s7 _ _ dl)) fun H' a' s' at' => q H' a' (s17.trans (s7.trans s')) at'
def stepE (K : PySem.W.Frag) (mg : Str → Option Value) : Str → Sp → Prop := fun x sp => x = "meet" ∧ sp = sp_after_meet K mg
theorem stepE_ok (T : Top K mg) (W : StepsW w K mg) : ∀ x sp, stepE K mg x sp → ∃ f, KDct K w (adr mg "STEPS") x (.ref f) ∧ HeldR P w K mg base 9 f sp := fun x sp h => by
  obtain ⟨rfl, rfl⟩ := h
  obtain ⟨f, g, hf⟩ := OkM.held ((ok_after_meet (P := P) (w := w) (base := base) T).mono (show 8 ≤ 9 by decide))
  have := W.at_ "meet" "after_meet" (by decide +kernel)
  rw [adr_of g] at this
  exact ⟨f, this, hf⟩
def sp_bmeet (K : PySem.W.Frag) (mg : Str → Option Value) : Sp := fun vs H Q _ => ∃ (b c : Addr) (q : BookS) (ns : List Str) (m : Mom), vs = [.ref b, .ref c] ∧ BookAt K mg H b q ∧ q.amid = false ∧ q.deeds.length < 60 ∧ q.moms[q.moms.length - 1]? = some m ∧ MomOk 900 m ∧ SqT K H c (ns.map V.str) ∧ ns.Pairwise sl ∧ 2 ≤ ns.length ∧ ns.length ≤ 100 ∧ (∀ x ∈ ns, x ∈ m.hands.map Prod.fst) ∧
  ∀ H', Xc b H H' → BookAt K mg H' b (q.push (meetM m ns) (.meet ns)) → Q .non H'
theorem ok_Book_meet (T : Top K mg) (W : StepsW w K mg) : OkM P w K mg base 12 "Book" "meet" ["self", "hands"] [] (sp_bmeet K mg) := by
  have O_Book_refuse_amid := ok_Book_refuse_amid (P := P) (w := w) (base := base) T
  have O_Book_perform := ok_Book_perform (P := P) (w := w) (base := base) T W (stepE_ok T W)
  refine T.d_Book_meet.ok sc_Book_meet (fun vs H Q E h => ?_) (fun f cdv A outer s H vs Q E hr h => ?_)
  · obtain ⟨b, c, q, ns, m, rfl, _⟩ := h
    rfl
  · obtain ⟨b, c, q, ns, m, rfl, B, am, few, gm, M, hn, srt, n1, n100, inn, k⟩ := h
    obtain ⟨⟨dx, w', t', u, v', ws, eb, h1, h2, h3, h4, h5⟩, nd, len⟩ := id B
    refine ⟨_, ((pss_cons (ps_expr (pe_methO0 O_Book_refuse_amid T.k_Book (hr.mono (by omega)) (pv 0)))
      (pss_one (ps_expr (pe_methO O_Book_perform T.k_Book (hr.mono (by omega)) (pv 0) (pa_cons (pe_tup (pa_cons pe_str (pa_cons (pv 1) pa_nil))) pa_nil)))))), ?_⟩
    refine ⟨.ref b, rfl, b, dx, _, rfl, eb, bookF_none (by decide +kernel) (by decide +kernel) (by decide +kernel) (by decide +kernel) (by decide +kernel), b, q, rfl, B, am, ?_⟩
    refine ⟨.ref b, rfl, b, dx, _, rfl, eb, bookF_none (by decide +kernel) (by decide +kernel) (by decide +kernel) (by decide +kernel) (by decide +kernel), .ref c, rfl, sz1000 (by decide : (2 : Nat) ≤ 1000), fun z1 nz1 => ?_⟩
    generalize h1' : upd H z1 _ = H1
    obtain ⟨s1, e1⟩ := new_of h1' nz1
    refine ⟨b, z1, q, .meet ns, "meet", _, _, m, meetM m ns, rfl, B.same s1, few, .inl (.inl e1), ⟨rfl, rfl⟩, .tup (.inl (.inl e1)) (.cons (.str _) (.cons (.tup (Same.tup s1 hn) (dpAll_strs ns)) .nil)), gm, fun a H' Q' s' ma kk => ?_, fun H' x' B' => k H' ((Xc.of s1).trans x') B'⟩
    exact ⟨a, c, ns, m, rfl, ma, M, Same.tup (s1.trans s') hn, srt, n1, n100, inn, fun H2 a' s2 at2 => kk H2 a' s2 at2⟩
def sp_common_at (K : PySem.W.Frag) (mg : Str → Option Value) : Sp := fun vs H Q _ => ∃ (a b : Addr) (m : Mom) (ns : List Str), vs = [.ref a, .ref b] ∧ MomAt K mg H a m ∧ SqT K H b (ns.map V.str) ∧ ns ≠ [] ∧ (∀ x ∈ ns, x ∈ m.hands.map Prod.fst) ∧ MomOk 1000 m ∧ ns.length ≤ 100 ∧
  ∀ H' l, Same H H' → RowsAt K H' l (commonR m.p m.n m.openM m.roomsM ns) → Q (.ref l) H'
theorem ok_common_at (T : Top K mg) : Ok P w K mg base 8 "common_at" ["moment", "names"] (sp_common_at K mg) := by
  have O_known_at := ok_known_at (P := P) (w := w) (base := base) T
  have O_shared := ok_shared (P := P) (w := w) (base := base) T
  refine T.d_common_at.ok sc_common_at (fun vs H Q E h => ?_) (fun f cdv A outer s H vs Q E hr h => ?_)
  · obtain ⟨a, b, m, ns, rfl, _⟩ := h
    rfl
  · obtain ⟨a, b, m, ns, rfl, ma, hb, hne, inn, M, l100, q⟩ := h
    cases ns with
    | nil => exact absurd rfl hne
    | cons x xs =>
      obtain ⟨dx, c, h, ea, hc, hh⟩ := id ma
      have G := M.five.toR
      have n8 := M.n8
      refine ⟨_, ((pss_cons (ps_set (i := 2) sc_common_at.nd rfl (.inl rfl) (pe_callO O_known_at (hr.mono (by omega)) (by rfl) (pa_cons (pv 0) (pa_cons (pe_slice sl_tupB (pv 1) po_none (po_some pe_int)) pa_nil))))
      (pss_cons (ps_for PassesOwn.never (by rfl) (pi_tup (pe_slice sl_tupB (pv 1) (po_some pe_int) po_none)) (pg_name (i := 3) sc_common_at.nd rfl (.inl rfl))
        (pss_one (ps_set (i := 2) sc_common_at.nd rfl (.inl rfl) (pe_callO O_shared (hr.mono (by omega)) (by rfl) (pa_cons (pe_fld (pv 0) (by rfl)) (pa_cons (pe_fld (pv 0) (by rfl)) (pa_cons (pv 2) (pa_cons (pe_callO O_known_at (hr.mono (by omega)) (by rfl) (pa_cons (pv 0) (pa_cons (pe_tup (pa_cons (pv 3) pa_nil)) pa_nil))) pa_nil))))))))
      (pss_one (ps_ret (pv 2)))))), ?_⟩
      refine ⟨.ref a, rfl, .ref b, rfl, _, rfl, b, _, rfl, hb, fun l2 H2 s2 h2 => ?_⟩
      rw [cut_upto (by decide)] at h2
      refine ⟨a, l2, m, [x], rfl, ma.same s2, h2, M, fun H3 l3 s3 r3 => ?_⟩
      rw [room_known M ⟨x, List.mem_singleton_self _, inn x List.mem_cons_self⟩] at r3
      have s13 := s2.trans s3
      refine ⟨.ref b, rfl, _, rfl, b, _, rfl, Same.tup s13 hb, fun l4 H4 s4 h4 => ?_⟩
      rw [cut_from (by decide) (by rw [List.length_map, List.length_cons]; omega)] at h4
      have h4 : SqT K H4 l4 (xs.map V.str) := h4
      have s14 := s13.trans s4
      refine ⟨l4, rfl, ⟨_, h4⟩, for_it (walk_tup (K := K) (a := l4) (xs := xs.map V.str)) (fun i σ H' => Same H4 H' ∧ ∃ (l : Addr) (y3 : Option V), RowsAt K H' l (commonF m.p m.n m.openM m.roomsM (roomO m.p m.n m.openM m.roomsM [x]) (xs.take i)) ∧ σ = [some (.ref a), some (.ref b), some (.ref l), y3]) ⟨Same.refl _, l3, none, RowsAt.same s4 r3, rfl⟩ (fun i σ H' _ hW => Same.tup hW.1 h4) (fun i y σ H5 H6 hi hW hY => ?_) (fun σ H5 hW => ?_)⟩
      · obtain ⟨rfl, hy⟩ := hY
        obtain ⟨s5, l, y3, hl, rfl⟩ := hW
        rw [List.getElem?_map] at hy
        obtain ⟨nm, hnm, rfl⟩ := Option.map_eq_some_iff.mp hy
        have ea5 := (s14.trans s5) _ _ ea
        refine ⟨.ref a, rfl, a, _, dx, _, _, rfl, ea5, T.k_Moment.cl, T.na_Moment_p, momF_p, .ref a, rfl, a, _, dx, _, _, rfl, ea5, T.k_Moment.cl, T.na_Moment_n, momF_n, .ref l, rfl, .ref a, rfl, .str nm, rfl, sz1000 (by decide : (1 : Nat) ≤ 1000), fun o no => ?_⟩
        dsimp only
        generalize h7 : upd _ o _ = H7
        obtain ⟨s7, e7⟩ := new_of h7 no
        have s17 := s14.trans (s5.trans s7)
        refine ⟨a, o, m, [nm], rfl, ma.same s17, .inl (.inl e7), M, fun H8 l8 s8 r8 => ?_⟩
        rw [room_known M ⟨nm, List.mem_singleton_self _, inn nm (List.mem_cons_of_mem _ (List.mem_of_getElem? hnm))⟩] at r8
        refine ⟨l, l8, _, _, m.p, m.n, rfl, RowsAt.same (s7.trans s8) hl, r8, commonF_pf G _ _ (roomO_pf G [x]), roomO_pf G [nm], M.fld, M.n1, by omega, M.p1, fun H9 l9 s9 r9 => ?_⟩
        refine ⟨s5.trans (s7.trans (s8.trans s9)), l9, _, ?_, rfl⟩
        rw [List.take_add_one, hnm]
        show RowsAt K H9 l9 (commonF m.p m.n m.openM m.roomsM (roomO m.p m.n m.openM m.roomsM [x]) (xs.take i ++ [nm]))
        rw [commonF_snoc]
        exact r9
      · obtain ⟨s5, l, y3, hl, rfl⟩ := hW
        rw [List.length_map, List.take_of_length_le (Nat.le_refl _)] at hl
        exact ⟨.ref l, rfl, q H5 l (s14.trans s5) hl⟩
def sp_bcommon (K : PySem.W.Frag) (mg : Str → Option Value) : Sp := fun vs H Q _ => ∃ (b c : Addr) (q : BookS) (v : V) (i : Nat) (ns : List Str) (m : Mom), vs = [.ref b, .ref c, v] ∧ BookAt K mg H b q ∧ AtIdx q v i ∧ q.moms[i]? = some m ∧ MomOk 1000 m ∧ SqT K H c (ns.map V.str) ∧ ns.Pairwise sl ∧ 1 ≤ ns.length ∧ ns.length ≤ 100 ∧ (∀ x ∈ ns, x ∈ m.hands.map Prod.fst) ∧
  ∀ H' l, Same H H' → RowsAt K H' l (commonR m.p m.n m.openM m.roomsM ns) → Q (.ref l) H'
theorem book_common (T : Top K mg) {f : Addr} {cdv : Value} {A : Around} {outer : List Env} {s : Shared} {H : Hp} {vs : List V} {Q : VK} {E : XK} (hr : Room 8 (A.deeper (envOfC "Book.common" (defScope s_Book_common) s.heap.objs.size f cdv))) (h : sp_bcommon K mg vs H Q E) :
    ∃ t, PSs (cxOf CX0 P w K mg base N_Book_common "Book.common" (defScope s_Book_common) f cdv A outer s H E).nox (defBody s_Book_common) t ∧ t { nx := fun _ H' => Q .non H', rt := Q } (start N_Book_common vs) H := by
  have O_Book_moment_of := ok_Book_moment_of (P := P) (w := w) (base := base) T
  have O_common_at := ok_common_at (P := P) (w := w) (base := base) T
  obtain ⟨b, c, q, v, i, ns, m, rfl, B, hi, gm, M, hc, srt, l1, l100, inn, k'⟩ := h
  obtain ⟨⟨dx, w', t, u, v', ws, eb, h1, h2, h3, h4, h5⟩, nd, len⟩ := id B
  refine ⟨_, ((pss_one (ps_ret (pe_callO O_common_at (hr.mono (by omega)) (by rfl) (pa_cons (pe_methO O_Book_moment_of T.k_Book (hr.mono (by omega)) (pv 0) (pa_cons (pv 1) (pa_cons pe_int (pa_cons (pv 2) pa_nil)))) (pa_cons (pv 1) pa_nil)))))), ?_⟩
  refine ⟨.ref b, rfl, b, dx, _, rfl, eb, bookF_none (by decide +kernel) (by decide +kernel) (by decide +kernel) (by decide +kernel) (by decide +kernel), .ref c, rfl, v, rfl, b, c, q, v, i, 1, ns, m, rfl, B, hi, gm, M, hc, srt, by omega, l100, inn, fun H1 a s1 hm => ?_⟩
  exact ⟨.ref c, rfl, a, c, m, ns, rfl, hm, Same.tup s1 hc, fun z => by rw [z] at l1; exact absurd l1 (by decide), inn, M, l100, fun H2 l s2 r2 => k' H2 l (s1.trans s2) r2⟩
theorem ok_Book_commonK (T : Top K mg) : OkMK P w K mg base 9 "Book" "common" ["self", "hands", "at"] 2 ["at"] (sp_bcommon K mg) :=
  T.d_Book_common.okK sc_Book_common (fun vs H Q E h => by
    obtain ⟨b, c, q, v, i, ns, m, rfl, _⟩ := h
    rfl) (fun _ _ _ _ _ _ us ws h1 h2 => match us, ws, h1, h2 with | [_, _], [_], _, _ => rfl) fun f cdv A outer s H vs Q E hr h => book_common T hr h
section
variable {B : Nat} {m : Mom} {r : List Int} {x : Str}
theorem open_call (M : MomOk B m) (ok : RowsOk m.p m.n [r]) : (callM m r).openM = plainR m.p m.n (m.openM ++ [r]) := (plainR_app M.fld M.okc ok).symm
theorem rooms_call (M : MomOk B m) (ok : RowsOk m.p m.n [r]) : (callM m r).roomsM = heardH m.p m.n r m.roomsM := by
  unfold Mom.roomsM heardH callM
  rw [List.map_map, List.map_map]
  refine List.map_congr_left fun h hh => ?_
  show (h.1, plainR m.p m.n (h.2 ++ [r])) = (h.1, plainR m.p m.n (plainR m.p m.n h.2 ++ [r]))
  rw [plainR_app M.fld (M.okh h hh) ok]
end
structure BookI (p : Int) (n : Nat) (nm : List Str) (B : Nat) (q : BookS) : Prop where
  amid : q.amid = false
  ok : ∀ m ∈ q.moms, MomOk B m ∧ m.p = p ∧ m.n = n ∧ m.hands.map Prod.fst = nm
  row : ∀ (x : Str) (r : List Int), Deed.call x r ∈ q.deeds → RowsOk p n [r]
  few : q.deeds.length ≤ B
  len : q.moms.length = q.deeds.length + 1
theorem BookI.last {p : Int} {n : Nat} {nm : List Str} {B : Nat} {q : BookS} (I : BookI p n nm B q) : ∃ m, q.moms[q.moms.length - 1]? = some m ∧ MomOk B m ∧ m.p = p ∧ m.n = n ∧ m.hands.map Prod.fst = nm := by
  have l := I.len
  have g : q.moms[q.moms.length - 1]? = some (q.moms[q.moms.length - 1]'(by omega)) := List.getElem?_eq_getElem (by omega)
  exact ⟨_, g, I.ok _ (List.mem_of_getElem? g)⟩
theorem BookI.push {p : Int} {n : Nat} {nm : List Str} {B : Nat} {q : BookS} {m' : Mom} {d : Deed} (I : BookI p n nm B q) (M : MomOk (B + 1) m') (e1 : m'.p = p) (e2 : m'.n = n) (e3 : m'.hands.map Prod.fst = nm) (hd : ∀ x r, d = .call x r → RowsOk p n [r]) : BookI p n nm (B + 1) (q.push m' d) where
  amid := I.amid
  ok := fun m hm => by
    rcases List.mem_append.mp hm with hm | hm
    · obtain ⟨a, b⟩ := I.ok m hm
      exact ⟨a.mono (Nat.le_succ _), b⟩
    · rw [List.mem_singleton.mp hm]
      exact ⟨M, e1, e2, e3⟩
  row := fun x r hm => by
    rcases List.mem_append.mp hm with hm | hm
    · exact I.row x r hm
    · exact hd x r (List.mem_singleton.mp hm).symm
  few := by
    show (q.deeds ++ [d]).length ≤ B + 1
    rw [List.length_append, List.length_singleton]
    have := I.few
    omega
  len := by
    show (q.moms ++ [m']).length = (q.deeds ++ [d]).length + 1
    rw [List.length_append, List.length_append, I.len]
    rfl
theorem push_last (q : BookS) (m : Mom) (d : Deed) : (q.push m d).moms[(q.push m d).moms.length - 1]? = some m := by
  show (q.moms ++ [m])[(q.moms ++ [m]).length - 1]? = some m
  rw [List.length_append, List.length_singleton, Nat.add_sub_cancel, List.getElem?_append_right (Nat.le_refl _), Nat.sub_self]
  rfl
theorem BookI.mono {p : Int} {n : Nat} {nm : List Str} {B B' : Nat} {q : BookS} (I : BookI p n nm B q) (h : B ≤ B') : BookI p n nm B' q where
  amid := I.amid
  ok := fun m hm => ⟨(I.ok m hm).1.mono h, (I.ok m hm).2⟩
  row := I.row
  few := Nat.le_trans I.few h
  len := I.len
end
end OC
set_option Elab.async false
set_option linter.all false
set_option maxRecDepth 100000
set_option maxHeartbeats 4000000
namespace OC
open PySem PySem.Spec PyProof.Rows L2
section
variable {P : Program} {w : World} {K : PySem.W.Frag} {mg : Str → Option Value} {base : Heap}
/-! two moments where the same is known -/
structure Alike (p : Int) (n : Nat) (nm : List Str) (m m' : Mom) : Prop where
  ep : m.p = p
  en : m.n = n
  enm : m.hands.map Prod.fst = nm
  ep' : m'.p = p
  en' : m'.n = n
  enm' : m'.hands.map Prod.fst = nm
  op : m.openM = m'.openM
  rm : m.roomsM = m'.roomsM
section
variable {p : Int} {n : Nat} {nm : List Str} {m m' : Mom} {B B' : Nat}
theorem Alike.stand (A : Alike p n nm m m') : standM m = standM m' := by
  unfold standM
  rw [A.ep, A.en, A.ep', A.en', A.op, A.rm]
theorem Alike.known (A : Alike p n nm m m') (M : MomOk B m) (M' : MomOk B' m') {ns : List Str} (inn : ∀ x ∈ ns, x ∈ nm) : plainR m.p m.n (heardM m ns) = plainR m'.p m'.n (heardM m' ns) := by
  cases ns with
  | nil =>
    have := A.op
    exact this
  | cons x xs =>
    rw [room_known M ⟨x, List.mem_cons_self, by rw [A.enm]; exact inn x List.mem_cons_self⟩, room_known M' ⟨x, List.mem_cons_self, by rw [A.enm']; exact inn x List.mem_cons_self⟩, A.ep, A.en, A.ep', A.en', A.op, A.rm]
theorem Alike.hands (A : Alike p n nm m m') (M : MomOk B m) (M' : MomOk B' m') {x : Str} (mx : x ∈ nm) {r : List Int} : InR p (heardM m [x]) r ↔ InR p (heardM m' [x]) r := by
  have k := A.known M M' (ns := [x]) (fun y hy => by rw [List.mem_singleton.mp hy]; exact mx)
  have h1 := InR.plain M.fld (heard_okM M [x]) (r := r)
  have h2 := InR.plain M'.fld (heard_okM M' [x]) (r := r)
  rw [A.ep] at h1
  rw [A.ep'] at h2
  rw [← h1, ← h2]
  rw [A.ep, A.ep'] at k
  rw [k]
theorem noughts_plus {p : Int} {n : Nat} {r : List Int} (h : r.length = n ∧ ∀ x ∈ r, 0 ≤ x ∧ x < p) : plusR p (List.replicate n 0) r 1 = r := by
  obtain ⟨rfl, h⟩ := h
  induction r with
  | nil => rfl
  | cons x xs ih =>
    have e := ih fun y hy => h y (List.mem_cons_of_mem _ hy)
    have hx := h x List.mem_cons_self
    unfold plusR at e ⊢
    rw [List.length_cons, List.replicate_succ]
    simp only [List.zip_cons_cons, List.map_cons, List.zipWith_cons_cons] at e ⊢
    rw [e]
    congr 1
    rw [Int.zero_add, Int.one_mul, Int.emod_eq_of_lt hx.1 hx.2]
/-- a row, or so often that row and what was known already: the same is known -/
theorem same_more (F : Fld p) {rs : List (List Int)} {r x r' : List Int} {c : Int} (ok : RowsOk p n rs) (okr : RowsOk p n [r]) (okr' : RowsOk p n [r']) (c0 : 1 ≤ c) (c1 : c < p) (ix : InR p rs x) (lx : x.length = n) (e : r' = plusR p (plusR p (List.replicate n 0) r c) x 1) : plainR p n (rs ++ [r]) = plainR p n (rs ++ [r']) := by
  have lr := (okr r List.mem_cons_self).1
  refine plain_same F (rowsOk_app ok okr) (rowsOk_app ok okr') (fun y hy => ?_) fun y hy => ?_
  · rcases List.mem_append.mp hy with hy | hy
    · exact InR.mem (List.mem_append_left _ hy)
    · rw [List.mem_singleton.mp hy]
      exact InR.back F c0 c1 lr (InR.mem (List.mem_append_right _ (List.mem_singleton_self r'))) (.inr ⟨x, InR.left ix, lx, e⟩)
  · rcases List.mem_append.mp hy with hy | hy
    · exact InR.mem (List.mem_append_left _ hy)
    · rw [List.mem_singleton.mp hy, e]
      have lz : (List.replicate n (0 : Int)).length = r.length := by rw [List.length_replicate, lr]
      exact InR.plus _ (by rw [plus_len lz, List.length_replicate, lx]) (InR.plus _ lz (InR.noughts _ _ _) (InR.mem (List.mem_append_right _ (List.mem_singleton_self r)))) (InR.left ix)
theorem Alike.call (A : Alike p n nm m m') (M : MomOk B m) (M' : MomOk B' m') {r x r' : List Int} {c : Int} (okr : RowsOk p n [r]) (okr' : RowsOk p n [r']) (c0 : 1 ≤ c) (c1 : c < p) (ix : InR p m'.called x) (lx : x.length = n) (e : r' = plusR p (plusR p (List.replicate n 0) r c) x 1) : Alike p n nm (callM m r) (callM m' r') := by
  have F : Fld p := by rw [← A.ep]; exact M.fld
  have ok1 : RowsOk m.p m.n [r] := by rw [A.ep, A.en]; exact okr
  have ok2 : RowsOk m'.p m'.n [r'] := by rw [A.ep', A.en']; exact okr'
  have io : InR p m'.openM x := by
    have := (InR.plain M'.fld M'.okc (r := x)).mpr (by rw [A.ep']; exact ix)
    rw [A.ep'] at this
    unfold Mom.openM
    rw [A.ep']
    exact this
  have S := M'.five
  have pk : PFR p n m'.openM := by
    have := S.pk
    rw [A.ep', A.en'] at this
    exact this
  refine ⟨A.ep, A.en, (callM_names m r).trans A.enm, A.ep', A.en', (callM_names m' r').trans A.enm', ?_, ?_⟩
  · rw [open_call M ok1, open_call M' ok2, A.op, A.ep, A.en, A.ep', A.en']
    exact same_more F pk.rows okr okr' c0 c1 io lx e
  · rw [rooms_call M ok1, rooms_call M' ok2, A.rm, A.ep, A.en, A.ep', A.en']
    unfold heardH
    refine List.map_congr_left fun h hh => ?_
    have ph := S.ph h hh
    rw [A.ep', A.en'] at ph
    have ih : InR p h.2 x := by
      have := InR.mono (fun z hz => S.inn h hh z hz) (by rw [A.ep']; exact io)
      rw [A.ep'] at this
      exact this
    rw [same_more F ph.rows okr okr' c0 c1 ih lx e]
theorem whisper_rooms (M : MomOk B m) {r : List Int} (ok : RowsOk m.p m.n [r]) (ns : List Str) : (whisperM m ns r).roomsM = m.roomsM.map fun h => if h.1 ∈ ns then (h.1, plainR m.p m.n (h.2 ++ [r])) else h := by
  unfold Mom.roomsM whisperM
  rw [List.map_map, List.map_map]
  refine List.map_congr_left fun h hh => ?_
  show ((if h.1 ∈ ns then (h.1, h.2 ++ [r]) else h).1, plainR m.p m.n (if h.1 ∈ ns then (h.1, h.2 ++ [r]) else h).2) = if h.1 ∈ ns then (h.1, plainR m.p m.n (plainR m.p m.n h.2 ++ [r])) else (h.1, plainR m.p m.n h.2)
  split
  · rw [plainR_app M.fld (M.okh h hh) ok]
  · rfl
theorem Alike.whisper (A : Alike p n nm m m') (M : MomOk B m) (M' : MomOk B' m') {r y r' : List Int} {x : Str} (okr : RowsOk p n [r]) (okr' : RowsOk p n [r']) (mx : x ∈ nm) (iy : InR p (heardM m' [x]) y) (ly : y.length = n) (e : r' = plusR p r y 1) : Alike p n nm (whisperM m [x] r) (whisperM m' [x] r') := by
  have F : Fld p := by rw [← A.ep]; exact M.fld
  have p2 := F.1
  have ok1 : RowsOk m.p m.n [r] := by rw [A.ep, A.en]; exact okr
  have ok2 : RowsOk m'.p m'.n [r'] := by rw [A.ep', A.en']; exact okr'
  have S := M'.five
  refine ⟨A.ep, A.en, (whisperM_names m [x] r).trans A.enm, A.ep', A.en', (whisperM_names m' [x] r').trans A.enm', A.op, ?_⟩
  rw [whisper_rooms M ok1, whisper_rooms M' ok2, A.rm, A.ep, A.en, A.ep', A.en']
  refine List.map_congr_left fun h hh => ?_
  by_cases c : h.1 ∈ [x]
  · rw [if_pos c, if_pos c]
    have ex := List.mem_singleton.mp c
    have ph := S.ph h hh
    rw [A.ep', A.en'] at ph
    obtain ⟨z, mz, ez⟩ := List.mem_map.mp hh
    have ih : InR p h.2 y := by
      have e1 : z.1 = x := by rw [← ex, ← ez]
      have sel := sel_one M'.nd mz
      have hz : heardM m' [x] = z.2 := by
        rw [← e1]
        exact sel
      rw [hz] at iy
      have := (InR.plain M'.fld (M'.okh z mz) (r := y)).mpr (by rw [A.ep']; exact iy)
      rw [A.ep'] at this
      rw [← ez]
      show InR p (plainR m'.p m'.n z.2) y
      rw [A.ep']
      exact this
    rw [same_more F ph.rows okr okr' (c := 1) (by omega) (by omega) ih ly (by rw [noughts_plus (okr r List.mem_cons_self)]; exact e)]
  · rw [if_neg c, if_neg c]
theorem meet_rooms (M : MomOk B m) (ns : List Str) : (meetM m ns).roomsM = m.roomsM.map fun h => if h.1 ∈ ns then (h.1, plainR m.p m.n (heardM m ns)) else h := by
  unfold Mom.roomsM
  show (m.hands.map fun h => if h.1 ∈ ns then (h.1, h.2 ++ newsR m.p m.n h.2 (plainR m.p m.n (heardM m ns))) else h).map (fun h => (h.1, plainR m.p m.n h.2)) = _
  rw [List.map_map, List.map_map]
  refine List.map_congr_left fun h hh => ?_
  show ((if h.1 ∈ ns then (h.1, h.2 ++ newsR m.p m.n h.2 (plainR m.p m.n (heardM m ns))) else h).1, plainR m.p m.n (if h.1 ∈ ns then (h.1, h.2 ++ newsR m.p m.n h.2 (plainR m.p m.n (heardM m ns))) else h).2) = if h.1 ∈ ns then (h.1, plainR m.p m.n (heardM m ns)) else (h.1, plainR m.p m.n h.2)
  split
  · rename_i c
    rw [meet_known M hh c]
  · rfl
theorem Alike.meet (A : Alike p n nm m m') (M : MomOk B m) (M' : MomOk B' m') {ns : List Str} (inn : ∀ x ∈ ns, x ∈ nm) : Alike p n nm (meetM m ns) (meetM m' ns) := by
  refine ⟨A.ep, A.en, (meetM_names m ns).trans A.enm, A.ep', A.en', (meetM_names m' ns).trans A.enm', A.op, ?_⟩
  rw [meet_rooms M, meet_rooms M', A.rm, A.known M M' inn]
theorem Alike.common (A : Alike p n nm m m') (ns : List Str) : commonR m.p m.n m.openM m.roomsM ns = commonR m'.p m'.n m'.openM m'.roomsM ns := by
  rw [A.ep, A.en, A.ep', A.en', A.op, A.rm]
end
theorem sl_of {l : List Str} (s : sortedS l = true) (nd : l.Nodup) : l.Pairwise sl := by
  refine ((pw_sorted l s).and nd).imp fun {a b} h => ?_
  show a.cps.toList < b.cps.toList
  refine Decidable.byContradiction fun z => h.2 ?_
  exact PySem.W.str_of_cps (List.le_antisymm h.1 (List.not_lt.mp z))
def sp_deed79 (K : PySem.W.Frag) (mg : Str → Option Value) : Sp := fun vs H Q _ => ∃ (d c b e : Addr) (t p : Int) (n : Nat) (nm : List Str) (B : Nat) (q r : BookS) (m u : Mom), vs = [.ref d, .ref b, .ref e, .int p, .int (n : Int)] ∧ Deck H d c t ∧ t ≤ 900000 ∧ b ≠ e ∧ BookAt K mg H b q ∧ BookAt K mg H e r ∧ BookI p n nm B q ∧ BookI p n nm B r ∧ q.deeds.length < 50 ∧ r.deeds.length < 50 ∧ q.moms[q.moms.length - 1]? = some m ∧ r.moms[r.moms.length - 1]? = some u ∧ Alike p n nm m u ∧ B ≤ 90 ∧
  ∀ H' t' m' u' d1 d2, Deck H' d c t' → t' ≤ t + 1000 → BookAt K mg H' b (q.push m' d1) → BookAt K mg H' e (r.push u' d2) → BookI p n nm (B + 8) (q.push m' d1) → BookI p n nm (B + 8) (r.push u' d2) → Alike p n nm m' u' → Q .non H'
theorem BookAt.other {K : PySem.W.Frag} {mg : Str → Option Value} {H H' : Hp} {b e : Addr} {q r : BookS} (R : BookAt K mg H e r) (B : BookAt K mg H b q) (x : Xc b H H') (ne : b ≠ e) : BookAt K mg H' e r :=
  R.mv (B.xc x) fun o eo => x _ _ eo (Ne.symm ne)
theorem ok__law_deed (T : Top K mg) (W : StepsW w K mg) : Ok P w K mg base 14 "_law_deed" ["_law_deck_here", "_law_book", "_law_other", "_law_p", "_law_n"] (sp_deed79 K mg) := by
  have O__law_draw := ok__law_draw (P := P) (w := w) (base := base) T
  have O__law_mixed := ok_mixed2 (P := P) (w := w) (base := base) T
  have O__law_plus := ok__law_plus (P := P) (w := w) (base := base) T
  have O__law_row := ok__law_row (P := P) (w := w) (base := base) T
  have O_Book_names := ok_Book_names (P := P) (w := w) (base := base) T
  have O_Book_heard := ok_Book_heard (P := P) (w := w) (base := base) T
  have O_Book_call := ok_Book_call (P := P) (w := w) (base := base) T W
  have O_Book_whisper := ok_Book_whisper (P := P) (w := w) (base := base) T W
  have O_Book_meet := ok_Book_meet (P := P) (w := w) (base := base) T W
  refine T.d__law_deed.ok sc__law_deed (fun vs H Q E h => ?_) (fun f cdv A outer s H vs Q E hr h => ?_)
  · obtain ⟨d, c, b, e, t, p, n, nm, B, q, r, m, u, rfl, _⟩ := h
    rfl
  · obtain ⟨d, c, b, e, t, p, n, nm, B, q, r, m, u, rfl, D0, ht, ne, Bb, Be, Iq, Ir, fq, fr, gm, gu, A, hB, k⟩ := h
    refine ⟨_, ((pss_cons (ps_set (i := 5) sc__law_deed.nd rfl (.inl rfl) (pe_methO0 O_Book_names T.k_Book (hr.mono (by omega)) (pv 1)))
      (pss_cons (ps_set (i := 6) sc__law_deed.nd rfl (.inl rfl) (pe_callO O__law_draw (hr.mono (by omega)) (by rfl) (pa_cons (pv 0) (pa_cons pe_int pa_nil))))
      (pss_cons (ps_set (i := 7) sc__law_deed.nd rfl (.inl rfl) (pe_ix ix_tup (pv 5) (pe_callO O__law_draw (hr.mono (by omega)) (by rfl) (pa_cons (pv 0) (pa_cons (pe_callB call_len_seq (by rfl) T.b_len (by decide +kernel) (pa_cons (pv 5) pa_nil)) pa_nil))) (fun _ _ => rfl)))
      (pss_one (ps_if (pt_cmpR op_lt (pv 6) pe_int (nomark _))
        (pss_cons (ps_set (i := 8) sc__law_deed.nd rfl (.inl rfl) (pe_callO O__law_mixed (hr.mono (by omega)) (by rfl) (pa_cons (pv 0) (pa_cons (pv 3) (pa_cons (pv 4) (pa_cons (pe_methO O_Book_heard T.k_Book (hr.mono (by omega)) (pv 1) (pa_cons (pe_tup (pa_cons (pv 7) pa_nil)) pa_nil)) pa_nil))))))
        (pss_cons (ps_set (i := 9) sc__law_deed.nd rfl (.inl rfl) (pe_callO O__law_plus (hr.mono (by omega)) (by rfl) (pa_cons (pv 3) (pa_cons (pe_op op_repB (pe_tup (pa_cons pe_int pa_nil)) (pv 4)) (pa_cons (pv 8) (pa_cons (pe_op op_add pe_int (pe_callO O__law_draw (hr.mono (by omega)) (by rfl) (pa_cons (pv 0) (pa_cons (pe_op op_sub (pv 3) pe_int) pa_nil)))) pa_nil))))))
        (pss_cons (ps_set (i := 9) sc__law_deed.nd rfl (.inl rfl) (pe_callO O__law_plus (hr.mono (by omega)) (by rfl) (pa_cons (pv 3) (pa_cons (pv 9) (pa_cons (pe_callO O__law_mixed (hr.mono (by omega)) (by rfl) (pa_cons (pv 0) (pa_cons (pv 3) (pa_cons (pv 4) (pa_cons (pe_methO O_Book_heard T.k_Book (hr.mono (by omega)) (pv 2) (pa_cons (pe_tup pa_nil) pa_nil)) pa_nil))))) (pa_cons pe_int pa_nil))))))
        (pss_cons (ps_expr (pe_methO O_Book_call T.k_Book (hr.mono (by omega)) (pv 1) (pa_cons (pv 7) (pa_cons (pv 8) pa_nil))))
        (pss_one (ps_expr (pe_methO O_Book_call T.k_Book (hr.mono (by omega)) (pv 2) (pa_cons (pv 7) (pa_cons (pv 9) pa_nil)))))))))
        (pss_one (ps_if (pt_cmpR op_eq (pv 6) pe_int (nomark _))
          (pss_cons (ps_set (i := 8) sc__law_deed.nd rfl (.inl rfl) (pe_callO O__law_row (hr.mono (by omega)) (by rfl) (pa_cons (pv 0) (pa_cons (pv 3) (pa_cons (pv 4) pa_nil)))))
          (pss_cons (ps_expr (pe_methO O_Book_whisper T.k_Book (hr.mono (by omega)) (pv 1) (pa_cons (pe_tup (pa_cons (pv 7) pa_nil)) (pa_cons (pv 8) pa_nil))))
          (pss_one (ps_expr (pe_methO O_Book_whisper T.k_Book (hr.mono (by omega)) (pv 2) (pa_cons (pe_tup (pa_cons (pv 7) pa_nil)) (pa_cons (pe_callO O__law_plus (hr.mono (by omega)) (by rfl) (pa_cons (pv 3) (pa_cons (pv 8) (pa_cons (pe_callO O__law_mixed (hr.mono (by omega)) (by rfl) (pa_cons (pv 0) (pa_cons (pv 3) (pa_cons (pv 4) (pa_cons (pe_methO O_Book_heard T.k_Book (hr.mono (by omega)) (pv 2) (pa_cons (pe_tup (pa_cons (pv 7) pa_nil)) pa_nil)) pa_nil))))) (pa_cons pe_int pa_nil))))) pa_nil)))))))
          (pss_cons (ps_expr (pe_methO O_Book_meet T.k_Book (hr.mono (by omega)) (pv 1) (pa_cons (pe_slice sl_tupB (pv 5) po_none (po_some pe_int)) pa_nil)))
          (pss_one (ps_expr (pe_methO O_Book_meet T.k_Book (hr.mono (by omega)) (pv 2) (pa_cons (pe_slice sl_tupB (pv 5) po_none (po_some pe_int)) pa_nil))))))))))))), ?_⟩
    obtain ⟨m0, gm0, M, e1, e2, e3⟩ := Iq.last
    cases gm.symm.trans gm0
    obtain ⟨u0, gu0, U, f1, f2, f3⟩ := Ir.last
    cases gu.symm.trans gu0
    have lq := Iq.len
    have lr := Ir.len
    have F : Fld p := by rw [← e1]; exact M.fld
    have p2 := F.1
    have p1 : p ≤ 1000 := by rw [← e1]; exact M.p1
    have n1 : 1 ≤ n := by rw [← e2]; exact M.n1
    have n8 : n ≤ 8 := by rw [← e2]; exact M.n8
    have atq : AtIdx q .non (q.moms.length - 1) := ⟨by omega, .inl ⟨rfl, by omega⟩⟩
    have atr : AtIdx r .non (r.moms.length - 1) := ⟨by omega, .inl ⟨rfl, by omega⟩⟩
    have M1000 := M.mono (show B ≤ 1000 by omega)
    have U1000 := U.mono (show B ≤ 1000 by omega)
    have M900 := M.mono (show B ≤ 900 by omega)
    have U900 := U.mono (show B ≤ 900 by omega)
    have many := M.many
    have few := M.few
    have lnm : nm.length = m.hands.length := by rw [← e3, List.length_map]
    have srt : nm.Pairwise sl := by rw [← e3]; exact sl_of M.srt M.nd
    obtain ⟨dxb, fs, eb, nfb⟩ := Bb.noF
    obtain ⟨dxe, gs, ee, nfe⟩ := Be.noF
    refine ⟨.ref b, rfl, b, dxb, _, rfl, eb, nfb _ (by decide +kernel), b, q, .non, _, m, rfl, Bb, atq, gm, by omega, fun H1 l1 s1 h1 => ?_⟩
    rw [e3] at h1
    refine ⟨.ref d, rfl, d, c, t, 6, rfl, D0.same s1, by omega, by decide, by decide, fun H2 way k2 D2 w0 w1 => ?_⟩
    have h2 := Kept.tup (D0.same s1) k2 h1
    refine ⟨.ref l1, rfl, .ref d, rfl, .ref l1, rfl, l1, _, rfl, .inr h2, d, c, _, _, rfl, D2, by omega, by rw [List.length_map]; omega, by rw [List.length_map]; omega, fun H3 jj k3 D3 j0 j1 => ?_⟩
    rw [List.length_map] at j1
    obtain ⟨j, rfl⟩ : ∃ j : Nat, jj = (j : Int) := ⟨jj.toNat, by omega⟩
    have hj : j < nm.length := by omega
    obtain ⟨x, gx⟩ : ∃ x, nm[j]? = some x := ⟨_, List.getElem?_eq_getElem hj⟩
    have mx := List.mem_of_getElem? gx
    have h3 := Kept.tup D2 k3 h2
    refine ⟨l1, _, j, .str x, rfl, rfl, h3, atI_nat (j := j) (by rw [List.getElem?_map, gx]; rfl), ?_⟩
    have Bb3 := ((Bb.same s1).kept (D0.same s1) k2).kept D2 k3
    have Be3 := ((Be.same s1).kept (D0.same s1) k2).kept D2 k3
    have at4 : way < 4 ∨ way = 4 ∨ way = 5 := by omega
    refine ⟨.int way, rfl, _, 4, rfl, rfl, _, rfl, ?_⟩
    have innx : ∀ y ∈ [x], y ∈ m.hands.map Prod.fst := fun y hy => by rw [List.mem_singleton.mp hy, e3]; exact mx
    have innu : ∀ y ∈ [x], y ∈ u.hands.map Prod.fst := fun y hy => by rw [List.mem_singleton.mp hy, f3]; exact mx
    have hlm : ∀ ns, ns.length ≤ 1 → (heardM m ns).length ≤ 100 := fun ns hn => by
      unfold heardM
      have lc := M.lc
      split
      · omega
      · rename_i hne
        obtain ⟨y, rfl⟩ : ∃ y, ns = [y] := by
          match ns, hne, hn with
          | [y], _, _ => exact ⟨y, rfl⟩
        by_cases my : y ∈ m.hands.map Prod.fst
        · obtain ⟨h, mh, rfl⟩ := List.mem_map.mp my
          rw [sel_one M.nd mh]
          have := M.lh h mh
          omega
        · rw [selR_out my]
          exact Nat.zero_le _
    have hlu : ∀ ns, ns.length ≤ 1 → (heardM u ns).length ≤ 100 := fun ns hn => by
      unfold heardM
      have lc := U.lc
      split
      · omega
      · rename_i hne
        obtain ⟨y, rfl⟩ : ∃ y, ns = [y] := by
          match ns, hne, hn with
          | [y], _, _ => exact ⟨y, rfl⟩
        by_cases my : y ∈ u.hands.map Prod.fst
        · obtain ⟨h, mh, rfl⟩ := List.mem_map.mp my
          rw [sel_one U.nd mh]
          have := U.lh h mh
          omega
        · rw [selR_out my]
          exact Nat.zero_le _
    have okm : ∀ ns, RowsOk p n (heardM m ns) := fun ns => by
      have := heard_okM M ns
      rw [e1, e2] at this
      exact this
    have oku : ∀ ns, RowsOk p n (heardM u ns) := fun ns => by
      have := heard_okM U ns
      rw [f1, f2] at this
      exact this
    by_cases hw : way < 4
    · rw [decide_eq_true hw]
      obtain ⟨dxb, fs, eb, nfb⟩ := Bb3.noF
      obtain ⟨dxe, gs, ee, nfe⟩ := Be3.noF
      refine iteT ⟨.ref d, rfl, .int p, rfl, .int n, rfl, .ref b, rfl, b, dxb, _, rfl, eb, nfb _ (by decide +kernel), .str x, rfl, sz1000 (by decide : (1 : Nat) ≤ 1000), fun z4 nz4 => ?_⟩
      generalize h4' : upd H3 z4 _ = H4
      obtain ⟨s4, e4⟩ := new_of h4' nz4
      refine ⟨b, z4, q, .non, _, [x], m, rfl, Bb3.same s4, atq, gm, M1000, .inl (.inl e4), List.pairwise_singleton _ _, (by decide : (1 : Nat) ≤ 100), innx, fun H5 l5 s5 ⟨w5, q5, r5⟩ => ?_⟩
      have D5 := (D3.same s4).same s5
      have lw5 := hlm [x] (Nat.le_refl _)
      have ok5 := okm [x]
      refine ⟨d, c, l5, _, p, n, w5, _, rfl, D5, by omega, by omega, by omega, by omega, by omega, .inr q5, r5, lw5, fun r hr => by rw [(ok5 r hr).1], fun H6 a6 row t6 k6 D6 ht6 e6 lr6 o6 in6 => ?_⟩
      have s45 := s4.trans s5
      have lrow : row.length = n := by omega
      have okrow : RowsOk p n [row] := rowsOk_one ⟨lrow, o6⟩
      -- so often that row
      refine ⟨.int p, rfl, sz1000 (by decide : (1 : Nat) ≤ 1000), fun v7 nv7 => ?_⟩
      generalize h7' : upd H6 v7 _ = H7
      obtain ⟨s7, e7⟩ := new_of h7' nv7
      refine ⟨.int n, rfl, v7, n, _, rfl, rfl, .inl (.inl e7), by simp, by omega, by omega, by simp, fun z8 H8 s8 hz => ?_⟩
      rw [show ((n : Int)).toNat = n from rfl, rep_int] at hz
      have s78 := s7.trans s8
      have D8 := D6.same s78
      have row8 := Same.tup s78 e6
      refine ⟨.ref a6, rfl, .ref d, rfl, .int p, rfl, p, 1, rfl, rfl, d, c, t6, p - 1, rfl, D8, by omega, by omega, by omega, fun H9 z k9 D9 z0 z1 => ?_⟩
      have lz : (List.replicate n (0 : Int)).length = row.length := by rw [List.length_replicate, lrow]
      refine ⟨1, z, rfl, rfl, z8, a6, _, row, p, 1 + z, rfl, Kept.tup D8 k9 hz, Kept.tup D8 k9 row8, by rw [List.length_replicate]; omega, by omega, by omega, by omega, fun HA lA sA nA eA => ?_⟩
      have DA := D9.same sA
      have Bb_A := (((((Bb3.same s45).kept D5 k6).same s78).kept D8 k9).same sA)
      have Be_A := (((((Be3.same s45).kept D5 k6).same s78).kept D8 k9).same sA)
      have rowA := Same.tup sA (Kept.tup D8 k9 row8)
      obtain ⟨dxe, gs, ee, nfe⟩ := Be_A.noF
      -- and what is known already
      refine ⟨.int p, rfl, .ref lA, rfl, .ref d, rfl, .int p, rfl, .int n, rfl, .ref e, rfl, e, dxe, _, rfl, ee, nfe _ (by decide +kernel), Nat.zero_le _, fun zB nzB => ?_⟩
      generalize hB' : upd HA zB _ = HB
      obtain ⟨sB, eB⟩ := new_of hB' nzB
      refine ⟨e, zB, r, .non, _, [], u, rfl, Be_A.same sB, atr, gu, U1000, .inl (.inl eB), List.Pairwise.nil, Nat.zero_le _, fun y hy => (nomatch hy), fun HC lC sC ⟨wC, qC, rC⟩ => ?_⟩
      have sBC := sB.trans sC
      have DC := DA.same sBC
      have lwC := hlu [] (Nat.zero_le _)
      have okC := oku []
      refine ⟨d, c, lC, _, p, n, wC, _, rfl, DC, by omega, by omega, by omega, by omega, by omega, .inr qC, rC, lwC, fun r hr => by rw [(okC r hr).1], fun HD aD mix tD kD DD htD eD lrD oD inD => ?_⟩
      have lmix : mix.length = n := by omega
      have lown : (plusR p (List.replicate n 0) row (1 + z)).length = n := by rw [plus_len lz, List.length_replicate]
      refine ⟨lA, aD, _, mix, p, 1, rfl, Kept.tup DC kD (.inl (.inl (sBC _ _ eA))), eD, by omega, by omega, by decide, by decide, fun HE lE sE nE eE => ?_⟩
      have DE := DD.same sE
      have Bb_E := ((Bb_A.same sBC).kept DC kD).same sE
      have Be_E := ((Be_A.same sBC).kept DC kD).same sE
      have rowE := Same.tup sE (Kept.tup DC kD (Same.tup sBC rowA))
      generalize hlike : plusR p (plusR p (List.replicate n 0) row (1 + z)) mix 1 = like at eE
      have llike : like.length = n := by rw [← hlike, plus_len (by omega)]; exact lown
      have okl : RowsOk p n [like] := rowsOk_one ⟨llike, by rw [← hlike]; exact plus_ok (by omega)⟩
      have A' := A.call M U okrow okl (c := 1 + z) (by omega) (by omega) inD lmix hlike.symm
      obtain ⟨dxb, fs, eb, nfb⟩ := Bb_E.noF
      -- both call
      obtain ⟨h0, mh0, eh0⟩ := List.mem_map.mp (innx x (List.mem_singleton_self x))
      obtain ⟨g0, mg0, eg0⟩ := List.mem_map.mp (innu x (List.mem_singleton_self x))
      have ok1 : RowsOk m.p m.n [row] := by rw [e1, e2]; exact okrow
      have ok2 : RowsOk u.p u.n [like] := by rw [f1, f2]; exact okl
      have sel1 : heardM m [x] = h0.2 := by rw [← eh0]; exact sel_one M.nd mh0
      have sel2 : heardM u [x] = g0.2 := by rw [← eg0]; exact sel_one U.nd mg0
      have has1 : hasR m.p m.n (plainR m.p m.n (heardM m [x])) row = true := by
        have := has_one (h := h0) M ok1 mh0 (by rw [← sel1, e1]; exact in6)
        rw [eh0] at this
        exact this
      have has2 : hasR u.p u.n (plainR u.p u.n (heardM u [x])) like = true := by
        have := has_one (h := g0) U ok2 mg0 (by
          rw [← sel2, f1, ← hlike]
          have i1 := (A.hands M U mx (r := row)).mp in6
          have i2 : InR p (heardM u [x]) mix := by
            rw [sel2]
            exact InR.mono (fun y hy => by have := U.inn g0 mg0 y hy; rw [f1] at this; exact this) inD
          exact InR.plus _ (by omega) (InR.plus _ lz (InR.noughts _ _ _) i1) i2)
        rw [eg0] at this
        exact this
      refine ⟨.ref b, rfl, b, dxb, _, rfl, eb, nfb _ (by decide +kernel), .str x, rfl, .ref a6, rfl, b, a6, q, x, row, m, rfl, Bb_E, Iq.amid, by omega, gm, M900, rowE, ok1, innx x (List.mem_singleton_self x), has1, fun HF xF BF => ?_⟩
      have Be_F := Be_E.other Bb_E xF ne
      obtain ⟨dxe, gs, ee, nfe⟩ := Be_F.noF
      refine ⟨.ref e, rfl, e, dxe, _, rfl, ee, nfe _ (by decide +kernel), .str x, rfl, .ref lE, rfl, e, lE, r, x, like, u, rfl, Be_F, Ir.amid, by omega, gu, U900, (Bb_E.xc xF).tk _ _ _ (.inl (.inl eE)), ok2, innu x (List.mem_singleton_self x), has2, fun HG xG BG => ?_⟩
      exact k HG _ _ _ _ _ ((DE.xc Bb_E xF).xc Be_F xG) (by omega) (BF.other Be_F xG (Ne.symm ne)) BG ((Iq.push (callM_ok M ok1) e1 e2 ((callM_names m row).trans e3) fun y r' ey => by cases ey; exact okrow).mono (by omega)) ((Ir.push (callM_ok U ok2) f1 f2 ((callM_names u like).trans f3) fun y r' ey => by cases ey; exact okl).mono (by omega)) A'
    · rw [decide_eq_false hw]
      obtain ⟨dxb, fs, eb, nfb⟩ := Bb3.noF
      refine iteF ⟨.int way, rfl, rfl, _, rfl, ite2 (fun _ => ?_) (fun _ => ?_)⟩
      · refine ⟨.ref d, rfl, .int p, rfl, .int n, rfl, d, c, _, p, n, rfl, D3, by omega, by omega, by omega, by omega, by omega, fun H4 a4 row t4 k4 D4 ht4 na4 e4 lr4 o4 => ?_⟩
        have lrow : row.length = n := by omega
        have okrow : RowsOk p n [row] := rowsOk_one ⟨lrow, o4⟩
        have ok1 : RowsOk m.p m.n [row] := by rw [e1, e2]; exact okrow
        have Bb4 := Bb3.kept D3 k4
        have Be4 := Be3.kept D3 k4
        obtain ⟨dxb, fs, eb, nfb⟩ := Bb4.noF
        refine ⟨.ref b, rfl, b, dxb, _, rfl, eb, nfb _ (by decide +kernel), .str x, rfl, sz1000 (by decide : (1 : Nat) ≤ 1000), fun z5 nz5 => ?_⟩
        generalize h5' : upd H4 z5 _ = H5
        obtain ⟨s5, e5⟩ := new_of h5' nz5
        have D5 := D4.same s5
        have Bb5 := Bb4.same s5
        refine ⟨.ref a4, rfl, b, z5, a4, q, [x], row, m, rfl, Bb5, Iq.amid, by omega, gm, M900, Same.tup s5 (.inl (.inl e4)), ok1, .inl (.inl e5), List.pairwise_singleton _ _, (by decide : (1 : Nat) ≤ 1), (by decide : (1 : Nat) ≤ 100), innx, fun H6 x6 B6 => ?_⟩
        have tk6 := (Bb5.xc x6).tk
        have Be6 := (Be4.same s5).other Bb5 x6 ne
        have D6 := D5.xc Bb5 x6
        have row6 : SqT K H6 a4 (row.map V.int) := tk6 _ _ _ (Same.tup s5 (.inl (.inl e4)))
        obtain ⟨dxe, gs, ee, nfe⟩ := Be6.noF
        refine ⟨.ref e, rfl, e, dxe, _, rfl, ee, nfe _ (by decide +kernel), .str x, rfl, sz1000 (by decide : (1 : Nat) ≤ 1000), fun z7 nz7 => ?_⟩
        generalize h7' : upd H6 z7 _ = H7
        obtain ⟨s7, e7⟩ := new_of h7' nz7
        have Be7 := Be6.same s7
        obtain ⟨dxe, gs, ee, nfe⟩ := Be7.noF
        refine ⟨.int p, rfl, .ref a4, rfl, .ref d, rfl, .int p, rfl, .int n, rfl, .ref e, rfl, e, dxe, _, rfl, ee, nfe _ (by decide +kernel), .str x, rfl, sz1000 (by decide : (1 : Nat) ≤ 1000), fun z8 nz8 => ?_⟩
        generalize h8' : upd H7 z8 _ = H8
        obtain ⟨s8, e8⟩ := new_of h8' nz8
        refine ⟨e, z8, r, .non, _, [x], u, rfl, Be7.same s8, atr, gu, U1000, .inl (.inl e8), List.pairwise_singleton _ _, (by decide : (1 : Nat) ≤ 100), innu, fun H9 l9 s9 ⟨w9, q9, r9⟩ => ?_⟩
        have s79 := s7.trans (s8.trans s9)
        have D9 := D6.same s79
        have lw9 := hlu [x] (Nat.le_refl _)
        have ok9 := oku [x]
        refine ⟨d, c, l9, _, p, n, w9, _, rfl, D9, by omega, by omega, by omega, by omega, by omega, .inr q9, r9, lw9, fun r hr => by rw [(ok9 r hr).1], fun HA aA mix tA kA DA htA eA lrA oA inA => ?_⟩
        have lmix : mix.length = n := by omega
        refine ⟨a4, aA, row, mix, p, 1, rfl, Kept.tup D9 kA (Same.tup s79 row6), eA, by omega, by omega, by decide, by decide, fun HB lB sB nB eB => ?_⟩
        generalize hlike : plusR p row mix 1 = like at eB
        have llike : like.length = n := by rw [← hlike, plus_len (by omega)]; exact lrow
        have okl : RowsOk p n [like] := rowsOk_one ⟨llike, by rw [← hlike]; exact plus_ok (by omega)⟩
        have ok2 : RowsOk u.p u.n [like] := by rw [f1, f2]; exact okl
        have A' := A.whisper M U okrow okl mx inA lmix hlike.symm
        have Be_B := ((Be6.same s79).kept D9 kA).same sB
        have B6B := ((B6.same s79).kept D9 kA).same sB
        have z7B : SqT K HB z7 ([x].map V.str) := Same.tup sB (Kept.tup D9 kA (Same.tup (s8.trans s9) (.inl (.inl e7))))
        refine ⟨e, z7, lB, r, [x], like, u, rfl, Be_B, Ir.amid, by omega, gu, U900, .inl (.inl eB), ok2, z7B, List.pairwise_singleton _ _, (by decide : (1 : Nat) ≤ 1), (by decide : (1 : Nat) ≤ 100), innu, fun HC xC BC => ?_⟩
        exact k HC _ _ _ _ _ ((DA.same sB).xc Be_B xC) (by omega) (B6B.other Be_B xC (Ne.symm ne)) BC ((Iq.push (whisperM_ok [x] M ok1) e1 e2 ((whisperM_names m [x] row).trans e3) fun y r' ey => by cases ey).mono (by omega)) ((Ir.push (whisperM_ok [x] U ok2) f1 f2 ((whisperM_names u [x] like).trans f3) fun y r' ey => by cases ey).mono (by omega)) A'
      · have meet2 : (nm.take 2).length = 2 := by rw [List.length_take]; omega
        have sub2 : (nm.take 2).Sublist nm := List.take_sublist _ _
        have inn2 : ∀ y ∈ nm.take 2, y ∈ nm := fun y hy => sub2.subset hy
        obtain ⟨dxb, fs, eb, nfb⟩ := Bb3.noF
        refine ⟨.ref b, rfl, b, dxb, _, rfl, eb, nfb _ (by decide +kernel), .ref l1, rfl, _, rfl, l1, _, rfl, h3, fun l4 H4 s4 h4 => ?_⟩
        rw [cut_upto (by decide), ← List.map_take] at h4
        have h4 : SqT K H4 l4 ((nm.take 2).map V.str) := h4
        have Bb4 := Bb3.same s4
        have A' := A.meet M U inn2
        refine ⟨b, l4, q, nm.take 2, m, rfl, Bb4, Iq.amid, by omega, gm, M900, h4, srt.sublist sub2, by omega, by omega, fun y hy => by rw [e3]; exact inn2 y hy, fun H5 x5 B5 => ?_⟩
        have tk5 := (Bb4.xc x5).tk
        have Be5 := (Be3.same s4).other Bb4 x5 ne
        have h5 := tk5 _ _ _ (Same.tup s4 h3)
        obtain ⟨dxe, gs, ee, nfe⟩ := Be5.noF
        refine ⟨.ref e, rfl, e, dxe, _, rfl, ee, nfe _ (by decide +kernel), .ref l1, rfl, _, rfl, l1, _, rfl, h5, fun l6 H6 s6 h6 => ?_⟩
        rw [cut_upto (by decide), ← List.map_take] at h6
        have h6 : SqT K H6 l6 ((nm.take 2).map V.str) := h6
        have Be6 := Be5.same s6
        refine ⟨e, l6, r, nm.take 2, u, rfl, Be6, Ir.amid, by omega, gu, U900, h6, srt.sublist sub2, by omega, by omega, fun y hy => by rw [f3]; exact inn2 y hy, fun H7 x7 B7 => ?_⟩
        exact k H7 _ _ _ _ _ ((((D3.same s4).xc Bb4 x5).same s6).xc Be6 x7) (by omega) ((B5.same s6).other Be6 x7 (Ne.symm ne)) B7 ((((Iq.mono (show B ≤ B + 7 by omega)).push (meetM_ok _ M) e1 e2 ((meetM_names m _).trans e3) fun y r' ey => by cases ey)).mono (by omega)) ((((Ir.mono (show B ≤ B + 7 by omega)).push (meetM_ok _ U) f1 f2 ((meetM_names u _).trans f3) fun y r' ey => by cases ey)).mono (by omega)) A'
/-- the row that tells the number k -/
def unitR (n k : Nat) : List Int := List.replicate k 0 ++ [1] ++ List.replicate (n - 1 - k) 0
theorem unit_ok {p : Int} {n k : Nat} (h : k < n) (hp : 2 ≤ p) : RowsOk p n [unitR n k] := rowsOk_one ⟨by unfold unitR; rw [List.length_append, List.length_append, List.length_replicate, List.length_replicate, List.length_singleton]; omega, fun x hx => by
  unfold unitR at hx
  rcases List.mem_append.mp hx with hx | hx
  · rcases List.mem_append.mp hx with hx | hx
    · rw [(List.mem_replicate.mp hx).2]
      omega
    · rw [List.mem_singleton.mp hx]
      omega
  · rw [(List.mem_replicate.mp hx).2]
    omega⟩
theorem ne_self (x : V) : V.bl (!decide (x = x)) = V.bl false := by
  rw [decide_eq_true rfl]
  rfl
def sp_alike79 (K : PySem.W.Frag) (mg : Str → Option Value) : Sp := fun vs H Q _ => ∃ (b e : Addr) (v : V) (i : Nat) (p : Int) (n : Nat) (nm : List Str) (q r : BookS) (m u : Mom), vs = [.ref b, .ref e, v] ∧ BookAt K mg H b q ∧ BookAt K mg H e r ∧ AtIdx q v i ∧ AtIdx r v i ∧ q.moms[i]? = some m ∧ r.moms[i]? = some u ∧ MomOk 100 m ∧ MomOk 100 u ∧ Alike p n nm m u ∧
  ∀ H', Same H H' → Q (.bl true) H'
theorem ok__law_alike (T : Top K mg) (hsys : HasSys base) : OkG P w K mg base 11 "_law_alike" ["_law_book", "_law_other", "_law_moment"] (sp_alike79 K mg) := by
  have OK_Book_names := ok_Book_namesK (P := P) (w := w) (base := base) T
  have OK_Book_stand := ok_Book_standK (P := P) (w := w) (base := base) T
  have OK_Book_known := ok_Book_knownK (P := P) (w := w) (base := base) T
  have OK_Book_common := ok_Book_commonK (P := P) (w := w) (base := base) T
  have OK_Book_knows := ok_Book_knowsK (P := P) (w := w) (base := base) T
  refine T.d__law_alike.okG sc__law_alike (fun vs H Q E h => ?_) (fun f cdv A outer s H vs Q E hr hgd h => ?_)
  · obtain ⟨b, e, v, i, p, n, nm, q, r, m, u, rfl, _⟩ := h
    rfl
  · obtain ⟨b, e, v, i, p, n, nm, q, r, m, u, rfl, Bb, Be, aq, ar, gm, gu, M, U, A, qq⟩ := h
    refine ⟨_, ((pss_cons (ps_set (i := 3) sc__law_alike.nd rfl (.inl rfl) (pe_methK0 OK_Book_names T.k_Book (hr.mono (by omega)) (pv 0) (pk_cons (pv 2) pk_nil)))
      (pss_cons (ps_set (i := 4) sc__law_alike.nd rfl (.inl rfl) (pe_methK0 OK_Book_stand T.k_Book (hr.mono (by omega)) (pv 0) (pk_cons (pv 2) pk_nil)))
      (pss_cons (ps_if (pt_cmpR op_ne (pe_callB (call_reprS NB hsys hr hgd) (by rfl) T.b_repr (by decide +kernel) (pa_cons (pe_methK0 OK_Book_stand T.k_Book (hr.mono (by omega)) (pv 1) (pk_cons (pv 2) pk_nil)) pa_nil)) (pe_callB (call_reprS NB hsys hr hgd) (by rfl) T.b_repr (by decide +kernel) (pa_cons (pv 4) pa_nil)) (nomark _))
        (pss_one (ps_ret pe_bl))
        pss_nil)
      (pss_cons (ps_if (pt_cmpR op_ne (pe_callB (call_reprS NB hsys hr hgd) (by rfl) T.b_repr (by decide +kernel) (pa_cons (pe_methK OK_Book_known T.k_Book (hr.mono (by omega)) (pv 0) (pa_cons (pe_tup pa_nil) pa_nil) (pk_cons (pv 2) pk_nil)) pa_nil)) (pe_callB (call_reprS NB hsys hr hgd) (by rfl) T.b_repr (by decide +kernel) (pa_cons (pe_methK OK_Book_known T.k_Book (hr.mono (by omega)) (pv 1) (pa_cons (pe_tup pa_nil) pa_nil) (pk_cons (pv 2) pk_nil)) pa_nil)) (nomark _))
        (pss_one (ps_ret pe_bl))
        pss_nil)
      (pss_cons (ps_asg (pv 4) (pg_tup (by rfl) (pgs_cons (pg_name (i := 5) sc__law_alike.nd rfl (.inl rfl)) (pgs_cons (pg_name (i := 6) sc__law_alike.nd rfl (.inr rfl)) (pgs_cons (pg_name (i := 7) sc__law_alike.nd rfl (.inl rfl)) (pgs_cons (pg_name (i := 8) sc__law_alike.nd rfl (.inl rfl)) pgs_nil))))))
      (pss_cons (ps_for PassesOwn.never (by rfl) (pi_list (pe_lst (pa_cons (pv 3) (pa_cons (pe_slice sl_tupB (pv 3) po_none (po_some pe_int)) (pa_cons (pe_slice sl_tupB (pv 3) (po_some pe_int) po_none) (pa_cons (pe_slice sl_tupB (pv 3) po_none (po_some pe_int)) (pa_cons (pe_evenT (pv 3)) pa_nil))))))) (pg_name (i := 9) sc__law_alike.nd rfl (.inl rfl))
        (pss_cons (ps_if (pt_cmpR op_ne (pe_callB (call_reprS NB hsys hr hgd) (by rfl) T.b_repr (by decide +kernel) (pa_cons (pe_methK OK_Book_known T.k_Book (hr.mono (by omega)) (pv 0) (pa_cons (pv 9) pa_nil) (pk_cons (pv 2) pk_nil)) pa_nil)) (pe_callB (call_reprS NB hsys hr hgd) (by rfl) T.b_repr (by decide +kernel) (pa_cons (pe_methK OK_Book_known T.k_Book (hr.mono (by omega)) (pv 1) (pa_cons (pv 9) pa_nil) (pk_cons (pv 2) pk_nil)) pa_nil)) (nomark _))
          (pss_one (ps_ret pe_bl))
          pss_nil)
        (pss_cons (ps_if (pt_cmpR op_ne (pe_callB (call_reprS NB hsys hr hgd) (by rfl) T.b_repr (by decide +kernel) (pa_cons (pe_methK OK_Book_common T.k_Book (hr.mono (by omega)) (pv 0) (pa_cons (pv 9) pa_nil) (pk_cons (pv 2) pk_nil)) pa_nil)) (pe_callB (call_reprS NB hsys hr hgd) (by rfl) T.b_repr (by decide +kernel) (pa_cons (pe_methK OK_Book_common T.k_Book (hr.mono (by omega)) (pv 1) (pa_cons (pv 9) pa_nil) (pk_cons (pv 2) pk_nil)) pa_nil)) (nomark _))
          (pss_one (ps_ret pe_bl))
          pss_nil)
        (pss_one (ps_for PassesOwn.never (by rfl) (pi_list (pe_lc (own := [("_law_k", 10)]) (g := gName 10) (by rfl) sc__law_alike.nd (pi_range1 (by rfl) T.b_range (pa_cons (pv 6) pa_nil)) (blkOk_by (own := [("_law_k", 10)]) (N := N__law_alike) (sc := defScope s__law_alike) (by decide +kernel)) (fun _ _ _ _ _ => (pg_name (i := 10) sc__law_alike.nd rfl (.inl rfl))) (fun _ _ _ _ _ => pts_nil) (fun _ _ _ _ _ => (pe_op (show OpR _ (binaryOp .Add) (rCatB K) from op_catB) (pe_op (show OpR _ (binaryOp .Add) (rCatB K) from op_catB) (pe_op (show OpR _ (binaryOp .Mult) (rRepZ K) from op_repZ) (pe_tup (pa_cons pe_int pa_nil)) (pv 10)) (pe_tup (pa_cons pe_int pa_nil))) (pe_op (show OpR _ (binaryOp .Mult) (rRepZ K) from op_repZ) (pe_tup (pa_cons pe_int pa_nil)) (pe_op op_sub (pe_op op_sub (pv 6) pe_int) (pv 10))))))) (pg_name (i := 11) sc__law_alike.nd rfl (.inl rfl))
          (pss_one (ps_if (pt_cmpR op_ne (pe_callB (call_reprS NB hsys hr hgd) (by rfl) T.b_repr (by decide +kernel) (pa_cons (pe_methK OK_Book_knows T.k_Book (hr.mono (by omega)) (pv 0) (pa_cons (pv 9) (pa_cons (pv 11) pa_nil)) (pk_cons (pv 2) pk_nil)) pa_nil)) (pe_callB (call_reprS NB hsys hr hgd) (by rfl) T.b_repr (by decide +kernel) (pa_cons (pe_methK OK_Book_knows T.k_Book (hr.mono (by omega)) (pv 1) (pa_cons (pv 9) (pa_cons (pv 11) pa_nil)) (pk_cons (pv 2) pk_nil)) pa_nil)) (nomark _))
            (pss_one (ps_ret pe_bl))
            pss_nil)))))))
      (pss_one (ps_ret pe_bl))))))))), ?_⟩
    obtain ⟨dxb, fs, eb, nfb⟩ := Bb.noF
    obtain ⟨dxe, gs, ee, nfe⟩ := Be.noF
    have many := M.many
    have M1000 := M.mono (show 100 ≤ 1000 by decide)
    have U1000 := U.mono (show 100 ≤ 1000 by decide)
    refine ⟨.ref b, rfl, b, dxb, _, rfl, eb, nfb _ (by decide +kernel), v, rfl, rfl, rfl, b, q, v, i, m, rfl, Bb, aq, gm, by omega, fun H1 l1 s1 h1 => ?_⟩
    rw [A.enm] at h1
    have Bb1 := Bb.same s1
    refine ⟨.ref b, rfl, b, dxb, _, rfl, s1 _ _ eb, nfb _ (by decide +kernel), v, rfl, rfl, rfl, b, q, v, i, m, rfl, Bb1, aq, gm, M1000, fun H2 l2 s2 d2 => ?_⟩
    have s12 := s1.trans s2
    refine ⟨.ref e, rfl, e, dxe, _, rfl, s12 _ _ ee, nfe _ (by decide +kernel), v, rfl, rfl, rfl, e, r, v, i, u, rfl, Be.same s12, ar, gu, U1000, fun H3 l3 s3 d3 => ?_⟩
    have fitU : FitS (standM u) := (fitz_stand U.five).fit (by decide) (by decide)
    have fitM : FitS (standM m) := (fitz_stand M.five).fit (by decide) (by decide)
    refine ⟨_, _, rfl, rep_noL _ _ (noL_stand _ _ _ _) d3, fitU, .ref l2, rfl, _, _, rfl, rep_noL _ _ (noL_stand _ _ _ _) (dp_same s3 _ _ d2), fitM, ?_⟩
    have es : (standD u.p u.n u.openM u.roomsM).shown = (standM m).shown := by rw [A.stand]; rfl
    rw [es]
    refine ⟨rfl, false, ne_self _, ?_⟩
    have s13 := s12.trans s3
    have okM : ∀ ns, (∀ x ∈ ns, x ∈ nm) → PFR p n (plainR m.p m.n (heardM m ns)) := fun ns _ => by
      have := PFR.of_plain M.fld (heard_okM M ns)
      rw [A.ep, A.en] at this
      rw [A.ep, A.en]
      exact this
    have F : Fld p := by rw [← A.ep]; exact M.fld
    have p2 := F.1
    have p1 : p ≤ 1000 := by rw [← A.ep]; exact M.p1
    have n1 : 1 ≤ n := by rw [← A.en]; exact M.n1
    have n8 : n ≤ 8 := by rw [← A.en]; exact M.n8
    have fitR : ∀ ns, (∀ x ∈ ns, x ∈ nm) → FitS (.tuple ((plainR m.p m.n (heardM m ns)).map rowD)) := fun ns h => (fitz_rows p1 n8 (okM ns h).rows (by have := PFR.len F (okM ns h); omega)).fit (by decide) (by decide)
    have toD : ∀ {H' : Hp} {u : Addr} {us : List (List Int)}, RowsAt K H' u us → Dp K H' (.ref u) (.tuple (us.map rowD)) := fun ⟨_, h1, h2⟩ => .tup h1 h2
    have nlR : ∀ us : List (List Int), noL (.tuple (us.map rowD)) = true := fun us => noL_tup (noL_rows us)
    have innM : ∀ {ns : List Str}, (∀ x ∈ ns, x ∈ nm) → ∀ x ∈ ns, x ∈ m.hands.map Prod.fst := fun h x hx => by rw [A.enm]; exact h x hx
    have innU : ∀ {ns : List Str}, (∀ x ∈ ns, x ∈ nm) → ∀ x ∈ ns, x ∈ u.hands.map Prod.fst := fun h x hx => by rw [A.enm']; exact h x hx
    have inn0 : ∀ x ∈ ([] : List Str), x ∈ nm := fun x hx => (nomatch hx)
    have k0 := A.known M U inn0
    refine iteF ⟨.ref b, rfl, b, dxb, _, rfl, s13 _ _ eb, nfb _ (by decide +kernel), Nat.zero_le _, fun z4 nz4 => ?_⟩
    generalize h4' : upd H3 z4 _ = H4
    obtain ⟨s4, e4⟩ := new_of h4' nz4
    have s14 := s13.trans s4
    refine ⟨v, rfl, rfl, rfl, b, z4, q, v, i, [], m, rfl, Bb.same s14, aq, gm, M1000, .inl (.inl e4), List.Pairwise.nil, Nat.zero_le _, innM inn0, fun H5 l5 s5 h5 => ?_⟩
    have s15 := s14.trans s5
    refine ⟨_, _, rfl, rep_noL _ _ (nlR _) (toD h5), fitR [] inn0, .ref e, rfl, e, dxe, _, rfl, s15 _ _ ee, nfe _ (by decide +kernel), Nat.zero_le _, fun z6 nz6 => ?_⟩
    generalize h6' : upd H5 z6 _ = H6
    obtain ⟨s6, e6⟩ := new_of h6' nz6
    have s16 := s15.trans s6
    refine ⟨v, rfl, rfl, rfl, e, z6, r, v, i, [], u, rfl, Be.same s16, ar, gu, U1000, .inl (.inl e6), List.Pairwise.nil, Nat.zero_le _, innU inn0, fun H7 l7 s7 h7 => ?_⟩
    rw [← k0] at h7
    have s17 := s16.trans s7
    refine ⟨_, _, rfl, rep_noL _ _ (nlR _) (toD h7), fitR [] inn0, rfl, false, ne_self _, ?_⟩
    refine iteF ?_
    obtain ⟨a0, o0, g0, wg0, ea, ha, hk, hg0, dg0⟩ := dp_stand (show Dp K H2 (.ref l2) (standD m.p m.n m.openM m.roomsM) from d2)
    cases ea
    rw [A.ep, A.en] at ha
    have s27 := s3.trans (s4.trans (s5.trans (s6.trans s7)))
    refine ⟨.ref l2, rfl, l2, _, rfl, Same.tup s27 ha, rfl, _, _, rfl, _, _, rfl, _, _, rfl, _, _, rfl, rfl, ?_⟩
    -- the groups
    have h7n : SqT K H7 l1 (nm.map V.str) := Same.tup (s2.trans s27) h1
    have lnm : nm.length = m.hands.length := by rw [← A.enm, List.length_map]
    have few := M.few
    have srt : nm.Pairwise sl := by rw [← A.enm]; exact sl_of M.srt M.nd
    refine ⟨.ref l1, rfl, ?_⟩
    refine ⟨.ref l1, rfl, _, rfl, l1, _, rfl, h7n, fun lA HA sA hA => ?_⟩
    rw [cut_upto (by decide), ← List.map_take] at hA
    have hA : SqT K HA lA ((nm.take 2).map V.str) := hA
    refine ⟨.ref l1, rfl, _, rfl, l1, _, rfl, Same.tup sA h7n, fun lB HB sB hB => ?_⟩
    rw [cut_from (by decide) (by rw [List.length_map]; omega), ← List.map_drop] at hB
    have hB : SqT K HB lB ((nm.drop 1).map V.str) := hB
    refine ⟨.ref l1, rfl, _, rfl, l1, _, rfl, Same.tup (sA.trans sB) h7n, fun lC HC sC hC => ?_⟩
    rw [cut_upto (by decide), ← List.map_take] at hC
    have hC : SqT K HC lC ((nm.take 1).map V.str) := hC
    have sAC := sA.trans (sB.trans sC)
    refine ⟨.ref l1, rfl, l1, _, rfl, Same.tup sAC h7n, fun lD nD => ?_⟩
    rw [evens_map]
    generalize hD' : upd HC lD _ = HD
    obtain ⟨sD, eD⟩ := new_of hD' nD
    refine ⟨sz1000 (by decide : (5 : Nat) ≤ 1000), fun L nL => ?_⟩
    generalize hE' : upd HD L _ = HE
    obtain ⟨sE, eL⟩ := new_of hE' nL
    have h7E : SqT K HE l1 (nm.map V.str) := Same.tup (sAC.trans (sD.trans sE)) h7n
    have dG : DpAll K HE [.ref l1, .ref lA, .ref lB, .ref lC, .ref lD] ([nm, nm.take 2, nm.drop 1, nm.take 1, evens nm].map txD) :=
      .cons (.tup h7E (dpAll_strs _)) (.cons (.tup (Same.tup (sB.trans (sC.trans (sD.trans sE))) hA) (dpAll_strs _)) (.cons (.tup (Same.tup (sC.trans (sD.trans sE)) hB) (dpAll_strs _)) (.cons (.tup (Same.tup (sD.trans sE) hC) (dpAll_strs _)) (.cons (.tup (Same.tup sE (.inl (.inl eD))) (dpAll_strs _)) .nil))))
    have goodG : ∀ ns ∈ [nm, nm.take 2, nm.drop 1, nm.take 1, evens nm], ns.Sublist nm ∧ 1 ≤ ns.length := fun ns hn => by
      rcases List.mem_cons.mp hn with rfl | hn
      · exact ⟨List.Sublist.refl _, by omega⟩
      rcases List.mem_cons.mp hn with rfl | hn
      · exact ⟨List.take_sublist _ _, by rw [List.length_take]; omega⟩
      rcases List.mem_cons.mp hn with rfl | hn
      · exact ⟨List.drop_sublist _ _, by rw [List.length_drop]; omega⟩
      rcases List.mem_cons.mp hn with rfl | hn
      · exact ⟨List.take_sublist _ _, by rw [List.length_take]; omega⟩
      · rw [List.mem_singleton.mp hn]
        refine ⟨evens_sub nm, ?_⟩
        match nm, lnm with
        | [], l => exact absurd l.symm (by rw [List.length_nil]; omega)
        | [_], _ => exact Nat.le_refl _
        | _ :: _ :: _, _ => exact Nat.succ_le_succ (Nat.zero_le _)
    have s1E := s17.trans (sAC.trans (sD.trans sE))
    have lG := dpAll_len dG
    generalize [nm, nm.take 2, nm.drop 1, nm.take 1, evens nm] = GL at dG goodG lG
    generalize ([.ref l1, .ref lA, .ref lB, .ref lC, .ref lD] : List V) = GV at dG eL lG
    refine ⟨L, rfl, ⟨_, .inl (.inl eL)⟩, for_it (walk_list (K := K) (a := L) (xs := GV)) (fun j σ H' => Same HE H' ∧ ∃ y9 y10 y11 : Option V, σ = [some (.ref b), some (.ref e), some v, some (.ref l1), some (.ref l2), some (.int p), some (.int (n : Int)), some (.ref o0), some (.ref g0), y9, y10, y11]) ⟨Same.refl _, none, none, none, rfl⟩ (fun j σ H' _ hW => .inl (.inl (hW.1 _ _ eL))) (fun j w9 σ HF HG hj hW hY => ?_) (fun σ HF hW => ?_)⟩
    · obtain ⟨rfl, hv⟩ := hY
      obtain ⟨sF, y9, y10, y11, rfl⟩ := hW
      obtain ⟨c, ns, rfl, _, mns, hc⟩ := dpAll_tx (dpAll_same sF _ _ dG) hv
      obtain ⟨sb, l1ns⟩ := goodG ns mns
      have innN : ∀ x ∈ ns, x ∈ nm := fun x hx => sb.subset hx
      have lns := sb.length_le
      have kk := A.known M U innN
      have s1F := s1E.trans sF
      have srtN := srt.sublist sb
      -- what the group knows
      refine ⟨.ref b, rfl, b, dxb, _, rfl, s1F _ _ eb, nfb _ (by decide +kernel), .ref c, rfl, v, rfl, rfl, rfl, b, c, q, v, i, ns, m, rfl, Bb.same s1F, aq, gm, M1000, hc, srtN, by omega, innM innN, fun K1 u1 t1 r1 => ?_⟩
      have s1a := s1F.trans t1
      refine ⟨_, _, rfl, rep_noL _ _ (nlR _) (toD r1), fitR ns innN, .ref e, rfl, e, dxe, _, rfl, s1a _ _ ee, nfe _ (by decide +kernel), .ref c, rfl, v, rfl, rfl, rfl, e, c, r, v, i, ns, u, rfl, Be.same s1a, ar, gu, U1000, Same.tup t1 hc, srtN, by omega, innU innN, fun K2 u2 t2 r2 => ?_⟩
      rw [← kk] at r2
      refine ⟨_, _, rfl, rep_noL _ _ (nlR _) (toD r2), fitR ns innN, rfl, false, ne_self _, iteF ?_⟩
      have s1b := s1a.trans t2
      have hc2 := Same.tup (t1.trans t2) hc
      -- what all of it know
      have fitC : FitS (.tuple ((commonR m.p m.n m.openM m.roomsM ns).map rowD)) := by
        have G := M.five.toR
        have pc := common_pf G (ns := ns) (fun z => by rw [z] at l1ns; exact absurd l1ns (by decide))
        have lc := PFR.len M.fld pc
        have rk : RowsOk p n (commonR m.p m.n m.openM m.roomsM ns) := fun r hr => by
          have z := pc.rows r hr
          rw [A.ep, A.en] at z
          exact z
        have e := A.en
        exact (fitz_rows p1 n8 rk (by omega)).fit (by decide) (by decide)
      refine ⟨.ref b, rfl, b, dxb, _, rfl, s1b _ _ eb, nfb _ (by decide +kernel), .ref c, rfl, v, rfl, rfl, rfl, b, c, q, v, i, ns, m, rfl, Bb.same s1b, aq, gm, M1000, hc2, srtN, l1ns, by omega, innM innN, fun K3 u3 t3 r3 => ?_⟩
      have s1c := s1b.trans t3
      refine ⟨_, _, rfl, rep_noL _ _ (nlR _) (toD r3), fitC, .ref e, rfl, e, dxe, _, rfl, s1c _ _ ee, nfe _ (by decide +kernel), .ref c, rfl, v, rfl, rfl, rfl, e, c, r, v, i, ns, u, rfl, Be.same s1c, ar, gu, U1000, Same.tup t3 hc2, srtN, l1ns, by omega, innU innN, fun K4 u4 t4 r4 => ?_⟩
      rw [← A.common] at r4
      refine ⟨_, _, rfl, rep_noL _ _ (nlR _) (toD r4), fitC, rfl, false, ne_self _, iteF ?_⟩
      have s1d := s1c.trans t4
      have hc4 := Same.tup (t3.trans t4) hc2
      -- rows that tell one number
      refine ⟨.int n, rfl, n, rfl, by omega, by omega, fun N nN => lc_range (lo := 0) (n := (n : Int).toNat) (fun k H' => Same K4 H' ∧ ∃ ws : List V, H' N = some (.lst ws) ∧ ws.length = k ∧ DpAll K H' ws (((List.range k).map (unitR n)).map rowD)) ⟨same_upd nN, [], upd_same, rfl, .nil⟩ (fun k H' hk hP => ?_) (fun K5 hP => ?_)⟩
      · obtain ⟨s6, ws, eN, lw, dl⟩ := hP
        have hkn : k < n := by omega
        refine ⟨rfl, sz1000 (by decide : (1 : Nat) ≤ 1000), fun o1 no1 => ?_⟩
        generalize ho1 : upd _ o1 _ = J1
        obtain ⟨t6, eo1⟩ := new_of ho1 no1
        rw [Int.zero_add]
        refine ⟨.int (k : Int), rfl, o1, k, _, rfl, rfl, .inl (.inl eo1), by simp, by omega, by omega, by simp, fun o2 J2 t7 ho2 => ?_⟩
        rw [show ((k : Int)).toNat = k from rfl, rep_int] at ho2
        refine ⟨sz1000 (by decide : (1 : Nat) ≤ 1000), fun o3 no3 => ?_⟩
        generalize ho3 : upd _ o3 _ = J3
        obtain ⟨t8, eo3⟩ := new_of ho3 no3
        refine ⟨o2, o3, _, _, rfl, rfl, Same.tup t8 ho2, .inl (.inl eo3), sz1000 (by rw [List.length_map, List.length_replicate, List.length_singleton]; omega), fun o4 J4 t9 ho4 => ?_⟩
        refine ⟨sz1000 (by decide : (1 : Nat) ≤ 1000), fun o5 no5 => ?_⟩
        generalize ho5 : upd _ o5 _ = J5
        obtain ⟨tA, eo5⟩ := new_of ho5 no5
        refine ⟨.int (n : Int), rfl, _, 1, rfl, rfl, .int (k : Int), rfl, _, _, rfl, rfl, o5, _, _, rfl, rfl, .inl (.inl eo5), by simp, by omega, by omega, by simp, fun o6 J6 tB ho6 => ?_⟩
        rw [show ((n : Int) - 1 - (k : Int)).toNat = n - 1 - k by omega, rep_int] at ho6
        refine ⟨o4, o6, _, _, rfl, rfl, Same.tup (tA.trans tB) ho4, ho6, sz1000 (by simp only [List.length_append, List.length_map, List.length_replicate, List.length_singleton]; omega), fun o7 J7 tC ho7 => ?_⟩
        have tall := t6.trans (t7.trans (t8.trans (t9.trans (tA.trans (tB.trans tC)))))
        have eN7 := tall _ _ eN
        have tk := (Tk.refl J7).mut eN7 (ys := ws ++ [.ref o7])
        refine ⟨ws, eN7, small1000 (by omega), same_mut (s6.trans tall) nN, ws ++ [.ref o7], upd_same, by rw [List.length_append, lw]; rfl, ?_⟩
        rw [List.range_succ, List.map_append, List.map_append]
        refine dpAll_append (dpAll_tk tk _ _ (noL_rows _) (dpAll_same tall _ _ dl)) (.cons (row_dp (tk _ _ _ ?_)) .nil)
        have eu : (unitR n k).map V.int = (List.replicate k 0).map V.int ++ [V.int 1] ++ (List.replicate (n - 1 - k) 0).map V.int := by
          unfold unitR
          rw [List.map_append, List.map_append]
          rfl
        rw [eu]
        exact ho7
      obtain ⟨s6, ws, eN, lw, dl⟩ := hP
      rw [show ((n : Int)).toNat = n from rfl] at lw dl
      have s1e := s1d.trans s6
      have hc5 := Same.tup s6 hc4
      refine ⟨N, rfl, ⟨_, .inl (.inl eN)⟩, for_it (walk_list (K := K) (a := N) (xs := ws)) (fun j σ H' => Same K5 H' ∧ ∃ y11 : Option V, σ = [some (.ref b), some (.ref e), some v, some (.ref l1), some (.ref l2), some (.int p), some (.int (n : Int)), some (.ref o0), some (.ref g0), some (.ref c), y10, y11]) ⟨Same.refl _, y11, rfl⟩ (fun j σ H' _ hW => .inl (.inl (hW.1 _ _ eN))) (fun j w11 σ K6 K7 hj hW hY => ?_) (fun σ K6 hW => ?_)⟩
      · obtain ⟨rfl, hv⟩ := hY
        obtain ⟨s7, y11', rfl⟩ := hW
        obtain ⟨a7, r7, rfl, gr7, mr7, hr7⟩ := dpAll_row (dpAll_same s7 _ _ dl) hv
        obtain ⟨k7, hk7, rfl⟩ := List.mem_map.mp mr7
        have ok7 := unit_ok (p := p) (List.mem_range.mp hk7) p2
        have s1g := s1e.trans s7
        have hc6 := Same.tup s7 hc5
        have okm7 : RowsOk m.p m.n [unitR n k7] := by rw [A.ep, A.en]; exact ok7
        have oku7 : RowsOk u.p u.n [unitR n k7] := by rw [A.ep', A.en']; exact ok7
        refine ⟨.ref b, rfl, b, dxb, _, rfl, s1g _ _ eb, nfb _ (by decide +kernel), .ref c, rfl, .ref a7, rfl, v, rfl, rfl, rfl, b, c, a7, q, v, i, ns, unitR n k7, m, rfl, Bb.same s1g, aq, gm, M1000, hc6, srtN, by omega, innM innN, hr7, okm7, fun K8 t8 => ?_⟩
        have s1h := s1g.trans t8
        have ek : hasR m.p m.n (plainR m.p m.n (heardM m ns)) (unitR n k7) = hasR u.p u.n (plainR u.p u.n (heardM u ns)) (unitR n k7) := by rw [kk, A.ep, A.en, A.ep', A.en']
        refine ⟨_, _, rfl, .bl _, (fitz_bool _).fit (by decide) (by decide), .ref e, rfl, e, dxe, _, rfl, s1h _ _ ee, nfe _ (by decide +kernel), .ref c, rfl, .ref a7, rfl, v, rfl, rfl, rfl, e, c, a7, r, v, i, ns, unitR n k7, u, rfl, Be.same s1h, ar, gu, U1000, Same.tup t8 hc6, srtN, by omega, innU innN, Same.tup t8 hr7, oku7, fun K9 t9 => ?_⟩
        rw [← ek]
        exact ⟨_, _, rfl, .bl _, (fitz_bool _).fit (by decide) (by decide), rfl, false, ne_self _, iteF ⟨s7.trans (t8.trans t9), _, rfl⟩⟩
      · obtain ⟨s7, y11', rfl⟩ := hW
        exact ⟨sF.trans ((t1.trans t2).trans ((t3.trans t4).trans (s6.trans s7))), _, _, _, rfl⟩
    · exact qq HF (s1E.trans hW.1)
theorem deck_keep {d c A : Addr} {H1 H2 : Hp} {o : HO} (k : Kept d c H1 H2) (nb : ¬ Bad d c A) (e : H1 A = some o) : H2 A = some o := k _ _ e (fun z => nb (.inl z)) fun z => nb (.inr z)
theorem mom_start79 {p : Int} {n : Nat} {hs : List (Str × List (List Int))} (F : Fld p) (p1 : p ≤ 1000) (n1 : 1 ≤ n) (n8 : n ≤ 8) (okh : ∀ h ∈ hs, RowsOk p n h.2 ∧ h.2.length ≤ 4) (few : 2 ≤ hs.length) (many : hs.length ≤ 6) (srt : sortedS (hs.map Prod.fst) = true) (nd : (hs.map Prod.fst).Nodup) (nm : ∀ x ∈ hs.map Prod.fst, NameOk x) : MomOk 4 ⟨p, n, [], hs⟩ where
  fld := F
  p1 := p1
  n1 := n1
  n8 := n8
  okc := fun r hr => nomatch hr
  okh := fun h hh => (okh h hh).1
  inn := fun h hh r hr => nomatch hr
  few := few
  many := many
  srt := srt
  nd := nd
  nm := nm
  lc := Nat.zero_le _
  lh := fun h hh => (okh h hh).2
theorem deck_xcI {C dx d c b : Addr} {t : Int} {H H' : Hp} {fs : List (Str × V)} (D : Deck H d c t) (e : H b = some (.ins C dx fs)) (x : Xc b H H') : Deck H' d c t := by
  obtain ⟨hd, ⟨cells, h1, h2⟩, n, t0⟩ := D
  exact ⟨x _ _ hd (fun z => by rw [z, e] at hd; cases hd), ⟨cells, x _ _ h1 (fun z => by rw [z, e] at h1; cases h1), h2⟩, n, t0⟩
def sp_law (K : PySem.W.Frag) : Sp := fun vs H Q _ => ∃ (a : Addr) (ns : List Int), vs = [.ref a] ∧ SqL K H a (ns.map V.int) ∧ ns.length ≤ 63 ∧ ∀ H', Q (.bl true) H'
theorem ok_law (T : Top K mg) (W : StepsW w K mg) (hsys : HasSys base) {f : Addr} {fd : FuncData} (F : Fun K "law" "law" s_law f fd) : FnG P w K mg base CX0 15 f fd ["_law_script"] (sp_law K) := by
  have O__law_deck := ok__law_deck (P := P) (w := w) (base := base) T
  have O__law_draw := ok__law_draw (P := P) (w := w) (base := base) T
  have O__law_prime := ok__law_prime (P := P) (w := w) (base := base) T
  have O__law_rows := ok__law_rows (P := P) (w := w) (base := base) T
  have O__law_names := ok__law_names (P := P) (w := w) (base := base) T
  have O__law_otherwise := ok__law_otherwise (P := P) (w := w) (base := base) T
  have O__law_deed := ok__law_deed (P := P) (w := w) (base := base) T W
  have O__law_alike := ok__law_alike (P := P) (w := w) (base := base) T hsys
  have O_Book___init__ := ok_Book___init__ (P := P) (w := w) (base := base) T
  have O_Book___len__ := ok_Book___len__ (P := P) (w := w) (base := base) T
  refine funG F sc_law (fun vs H Q E h => ?_) (fun cdv A outer s H vs Q E hr hgd h => ?_)
  · obtain ⟨a, ns, rfl, _⟩ := h
    rfl
  · obtain ⟨a, ns, rfl, hS, hl, qq⟩ := h
    refine ⟨_, ((pss_cons (ps_set (i := 1) sc_law.nd rfl (.inr rfl) (pe_callO O__law_deck (hr.mono (by omega)) (by rfl) (pa_cons (pv 0) pa_nil)))
      (pss_cons (ps_set (i := 2) sc_law.nd rfl (.inr rfl) (pe_callO O__law_prime (hr.mono (by omega)) (by rfl) (pa_cons (pv 1) pa_nil)))
      (pss_cons (ps_set (i := 3) sc_law.nd rfl (.inr rfl) (pe_op op_add pe_int (pe_callO O__law_draw (hr.mono (by omega)) (by rfl) (pa_cons (pv 1) (pa_cons pe_int pa_nil)))))
      (pss_cons (ps_set (i := 5) sc_law.nd rfl (.inl rfl) (pe_callTy call_tuple_of (by rfl) T.b_tuple (by decide +kernel) (pa_cons (pe_lc (own := [("_law_name", 4)]) (g := gName 4) (by rfl) sc_law.nd (pi_list (pe_callO O__law_names (hr.mono (by omega)) (by rfl) (pa_cons (pv 1) (pa_cons (pe_op op_add pe_int (pe_callO O__law_draw (hr.mono (by omega)) (by rfl) (pa_cons (pv 1) (pa_cons pe_int pa_nil)))) pa_nil)))) (blkOk_by (own := [("_law_name", 4)]) (N := N_law) (sc := defScope s_law) (by decide +kernel)) (fun _ _ _ _ _ => (pg_name (i := 4) sc_law.nd rfl (.inl rfl))) (fun _ _ _ _ _ => pts_nil) (fun _ _ _ _ _ => (pe_tup (pa_cons (pv 4) (pa_cons (pe_callO O__law_rows (hr.mono (by omega)) (by rfl) (pa_cons (pv 1) (pa_cons (pv 2) (pa_cons (pv 3) (pa_cons pe_int pa_nil))))) pa_nil))))) pa_nil)))
      (pss_cons (ps_set (i := 6) sc_law.nd rfl (.inl rfl) (pe_makeO O_Book___init__ T.k_Book (hr.mono (by omega)) (by rfl) (pa_cons (pv 2) (pa_cons (pv 3) (pa_cons (pv 5) pa_nil)))))
      (pss_cons (ps_set (i := 8) sc_law.nd rfl (.inl rfl) (pe_makeO O_Book___init__ T.k_Book (hr.mono (by omega)) (by rfl) (pa_cons (pv 2) (pa_cons (pv 3) (pa_cons (pe_callTy call_tuple_of (by rfl) T.b_tuple (by decide +kernel) (pa_cons (pe_lc (own := [("_law_name", 4), ("_law_rows_here", 7)]) (g := gTup K 2 (gCons (gName 4) (gCons (gName 7) gNil))) (by rfl) sc_law.nd (pi_tup (pv 5)) (blkOk_by (own := [("_law_name", 4), ("_law_rows_here", 7)]) (N := N_law) (sc := defScope s_law) (by decide +kernel)) (fun _ _ _ _ _ => (pg_tup (by rfl) (pgs_cons (pg_name (i := 4) sc_law.nd rfl (.inl rfl)) (pgs_cons (pg_name (i := 7) sc_law.nd rfl (.inl rfl)) pgs_nil)))) (fun _ _ _ _ _ => pts_nil) (fun _ _ _ _ _ => (pe_tup (pa_cons (pv 4) (pa_cons (pe_callO O__law_otherwise (hr.mono (by omega)) (by rfl) (pa_cons (pv 1) (pa_cons (pv 2) (pa_cons (pv 3) (pa_cons (pv 7) pa_nil))))) pa_nil))))) pa_nil)) pa_nil)))))
      (pss_cons (ps_for PassesOwn.never (by rfl) (pi_range1 (by rfl) T.b_range (pa_cons (pe_callO O__law_draw (hr.mono (by omega)) (by rfl) (pa_cons (pv 1) (pa_cons pe_int pa_nil))) pa_nil)) (pg_name (i := 9) sc_law.nd rfl (.inl rfl))
        (pss_cons (ps_expr (pe_callO O__law_deed (hr.mono (by omega)) (by rfl) (pa_cons (pv 1) (pa_cons (pv 6) (pa_cons (pv 8) (pa_cons (pv 2) (pa_cons (pv 3) pa_nil)))))))
        (pss_one (ps_if (pt_not (pt_val (pe_callG O__law_alike (hr.mono (by omega)) hgd (by rfl) (pa_cons (pv 6) (pa_cons (pv 8) (pa_cons pe_non pa_nil))))))
          (pss_one (ps_ret pe_bl))
          pss_nil))))
      (pss_one (ps_ret (pe_and (pe_callG O__law_alike (hr.mono (by omega)) hgd (by rfl) (pa_cons (pv 6) (pa_cons (pv 8) (pa_cons pe_non pa_nil)))) (pe_one (pe_callG O__law_alike (hr.mono (by omega)) hgd (by rfl) (pa_cons (pv 6) (pa_cons (pv 8) (pa_cons (pe_callO O__law_draw (hr.mono (by omega)) (by rfl) (pa_cons (pv 1) (pa_cons (pe_op op_add (pe_callB (call_lenM O_Book___len__ (hr.mono (by omega))) (by rfl) T.b_len (by decide +kernel) (pa_cons (pv 6) pa_nil)) pe_int) pa_nil))) pa_nil)))))))))))))))), ?_⟩
    refine ⟨.ref a, rfl, a, ns, rfl, hS, hl, fun H1 d c s1 D1 _ _ => ?_⟩
    refine ⟨.ref d, rfl, d, c, 0, rfl, D1, by decide, fun H2 p k2 D2 mp => ?_⟩
    obtain ⟨p5, p101⟩ := pr8_bd p mp
    have F := pr8_fld p mp
    refine ⟨.ref d, rfl, d, c, _, 6, rfl, D2, by decide, by decide, by decide, fun H3 n' k3 D3 n0 n5 => ⟨1, n', rfl, rfl, ?_⟩⟩
    obtain ⟨n, hn⟩ : ∃ n : Nat, 1 + n' = (n : Int) := ⟨(1 + n').toNat, by omega⟩
    dsimp only
    rw [hn]
    have n1 : 1 ≤ n := by omega
    have n8 : n ≤ 8 := by omega
    -- the hands
    refine ⟨.ref d, rfl, .ref d, rfl, d, c, _, 3, rfl, D3, by decide, by decide, by decide, fun H4 m' k4 D4 m0 m1 => ⟨2, m', rfl, rfl, ?_⟩⟩
    refine ⟨d, c, _, (2 + m').toNat, by rw [Int.toNat_of_nonneg (by omega)]; rfl, D4, by omega, by omega, fun H5 l5 xs t5 k5 D5 ht5 nl5 e5 lx so nd nm => ?_⟩
    have b5 := D4.fresh nl5
    have lxs : xs.length ≤ 4 := by omega
    have lxs2 : 2 ≤ xs.length := by omega
    refine ⟨l5, rfl, ⟨_, .inl (.inl e5)⟩, fun L nL => lc_it (walk_list (K := K) (a := l5) (xs := xs.map V.str)) (fun i H' => Kept d c H5 H' ∧ ∃ (t' : Int) (ws : List V) (hs : List (Str × List (List Int))), Deck H' d c t' ∧ t' ≤ t5 + 1000 * i ∧ H' l5 = some (.lst (xs.map V.str)) ∧ H' L = some (.lst ws) ∧ DpAll K H' ws (hs.map handD) ∧ hs.map Prod.fst = xs.take i ∧ (∀ h ∈ hs, RowsOk p n h.2 ∧ h.2.length ≤ 4))
      ⟨Kept.of (same_upd nL), t5, [], [], D5.same (same_upd nL), by omega, (same_upd nL) _ _ e5, upd_same, .nil, rfl, fun h hh => (nomatch hh)⟩ (fun i H' _ hP => by obtain ⟨_, _, _, _, _, _, e, _⟩ := hP; exact .inl (.inl e)) (fun i v H6 H7 hi hP hY => ?_) (fun H6 hP => ?_)⟩
    · obtain ⟨rfl, hv⟩ := hY
      obtain ⟨k6, t6, ws, hs, D6, ht6, e56, eL6, dhs, fst, rms⟩ := hP
      rw [List.getElem?_map] at hv
      obtain ⟨x, gx, rfl⟩ := Option.map_eq_some_iff.mp hv
      rw [List.length_map] at hi
      have lhs : hs.length = i := by
        have := congrArg List.length fst
        rw [List.length_map, List.length_take] at this
        omega
      have lws := dpAll_len dhs
      rw [List.length_map] at lws
      have bL := D5.fresh nL
      refine ⟨rfl, .str x, rfl, .ref d, rfl, .int p, rfl, .int n, rfl, d, c, t6, p, n, 4, rfl, D6, by omega, by omega, by omega, by omega, by omega, by decide, by decide, fun H7 a7 w7 rs7 t7 k7 D7 ht7 e7 d7 l7 ok7 => ?_⟩
      refine ⟨sz1000 (by decide : (2 : Nat) ≤ 1000), fun z8 nz8 => ?_⟩
      generalize h8 : upd H7 z8 _ = H8
      obtain ⟨s8, e8⟩ := new_of h8 nz8
      have eL8 := s8 _ _ (deck_keep k7 bL eL6)
      have tk := (Tk.refl H8).mut eL8 (ys := ws ++ [.ref z8])
      have k68 := k7.trans (Kept.of s8)
      have neL : l5 ≠ L := fun z => by rw [z, nL] at e5; cases e5
      refine ⟨ws, eL8, small1000 (by omega), (k6.trans k68).mut nL, t7, ws ++ [.ref z8], hs ++ [(x, rs7)], (D7.same s8).mut bL, by omega, ?_, upd_same, ?_, ?_, fun h hh => ?_⟩
      · rw [upd_ne neL]
        exact s8 _ _ (deck_keep k7 b5 e56)
      · rw [List.map_append]
        exact dpAll_append (dpAll_tk tk _ _ (noL_hands _) (dpAll_tk (Tk.kept D6 k68) _ _ (noL_hands _) dhs)) (.cons (.tup (tk _ _ _ (.inl (.inl e8))) (.cons (.str _) (.cons (.tup (tk _ _ _ (.inl (.inl (s8 _ _ e7)))) (dpAll_tk tk _ _ (noL_rows _) (dpAll_same s8 _ _ d7))) .nil))) .nil)
      · rw [List.map_append, fst, List.take_add_one, gx]
        rfl
      · rcases List.mem_append.mp hh with hh | hh
        · exact rms h hh
        · rw [List.mem_singleton.mp hh]
          exact ⟨fun r hr => ⟨by have := (ok7 r hr).1; omega, (ok7 r hr).2⟩, by show rs7.length ≤ 4; omega⟩
    obtain ⟨k6, t6, ws, hs, D6, ht6, e56, eL6, dhs, fst, rms⟩ := hP
    rw [List.length_map] at ht6
    rw [List.length_map, List.take_of_length_le (Nat.le_refl _)] at fst
    have lws := dpAll_len dhs
    rw [List.length_map] at lws
    have lhs : hs.length = xs.length := by
      have := congrArg List.length fst
      rw [List.length_map] at this
      exact this
    refine ⟨L, ws, rfl, .inl ⟨.inl (.inl eL6), fun g ng => ?_⟩⟩
    dsimp only
    generalize h8 : upd H6 g _ = H8
    obtain ⟨s8, e8⟩ := new_of h8 ng
    have D8 := D6.same s8
    have dg8 := dpAll_same s8 _ _ dhs
    refine ⟨.int p, rfl, .int n, rfl, .ref g, rfl, fun b dx nb ndx nbd => ?_⟩
    generalize hB : upd (upd H8 dx (.own b)) b _ = HB
    have sB : Same H8 HB := fun z o e => by
      have q1 : z ≠ b := fun y => by rw [y, nb] at e; cases e
      have q2 : z ≠ dx := fun y => by rw [y, ndx] at e; cases e
      rw [← hB, upd_ne q1, upd_ne q2]
      exact e
    have eB : HB b = some (.ins (adr mg "Book") dx []) := by rw [← hB]; exact upd_same
    refine ⟨b, dx, g, p, n, hs, rfl, eB, .tup (Same.tup sB (.inl (.inl e8))) (dpAll_same sB _ _ dg8), fun H9 x9 B9 => ⟨rfl, ?_⟩⟩
    have m9 : Mv mg HB H9 := x9.mvI eB rfl
    have D9 : Deck H9 d c t6 := deck_xcI (D8.same sB) eB x9
    have eg9 : H9 g = some (.tup ws) := x9 _ _ (sB _ _ e8) fun z => by
      have := sB _ _ e8
      rw [z, eB] at this
      cases this
    have hg9 : SqT K H9 g ws := .inl (.inl eg9)
    have dg9 : DpAll K H9 ws (hs.map handD) := dpAll_tk m9.tk _ _ (noL_hands hs) (dpAll_same sB _ _ dg8)
    -- the other one's hands
    refine ⟨.int p, rfl, .int n, rfl, .ref g, rfl, g, rfl, ⟨_, hg9⟩, fun M nM => lc_it (walk_tup (K := K) (a := g) (xs := ws)) (fun i H' => Kept d c H9 H' ∧ ∃ (t' : Int) (us : List V) (os : List (Str × List (List Int))), Deck H' d c t' ∧ t' ≤ t6 + 1000 * i ∧ H' M = some (.lst us) ∧ DpAll K H' us (os.map handD) ∧ os.map (fun h => (h.1, plainR p n h.2)) = (hs.take i).map (fun h => (h.1, plainR p n h.2)) ∧ (∀ h ∈ os, RowsOk p n h.2 ∧ h.2.length ≤ 4))
      ⟨Kept.of (same_upd nM), t6, [], [], D9.same (same_upd nM), by omega, upd_same, .nil, rfl, fun h hh => (nomatch hh)⟩ (fun i H' _ hP => Kept.tup D9 hP.1 hg9) (fun i v HA HB2 hi hP hY => ?_) (fun HA hP => ?_)⟩
    · obtain ⟨rfl, hv⟩ := hY
      obtain ⟨kA, tA, us, os, DA, htA, eMA, dus, eqs, rms2⟩ := hP
      obtain ⟨cc, rr, y, rfl, gy, my, hcc, hrr⟩ := dpAll_hand (dpAll_tk (Tk.kept D9 kA) _ _ (noL_hands hs) dg9) hv
      obtain ⟨oky, ly⟩ := rms y my
      have bM := D9.fresh nM
      have hi' : i < hs.length := by
        have := (List.getElem?_eq_some_iff.mp gy).1
        exact this
      refine ⟨cc, _, rfl, hcc, rfl, _, _, rfl, _, _, rfl, rfl, rfl, .str y.1, rfl, .ref d, rfl, .int p, rfl, .int n, rfl, .ref rr, rfl, d, c, rr, tA, p, n, y.2, rfl, DA, by omega, hrr, oky, by omega, F, by omega, n1, by omega, fun HC lC os2 tC kC DC htC hC okC lenC in1 in2 => ?_⟩
      refine ⟨sz1000 (by decide : (2 : Nat) ≤ 1000), fun zD nzD => ?_⟩
      generalize hD : upd HC zD _ = HD
      obtain ⟨sD, eD⟩ := new_of hD nzD
      obtain ⟨wC, qC, dC⟩ := hC
      have lus := dpAll_len dus
      rw [List.length_map] at lus
      have los : os.length = i := by
        have := congrArg List.length eqs
        rw [List.length_map, List.length_map, List.length_take] at this
        omega
      have eM8 := sD _ _ (deck_keep kC bM eMA)
      have tk := (Tk.refl HD).mut eM8 (ys := us ++ [.ref zD])
      have kAD := kC.trans (Kept.of sD)
      refine ⟨us, eM8, small1000 (by omega), (kA.trans kAD).mut nM, tC, us ++ [.ref zD], os ++ [(y.1, os2)], (DC.same sD).mut bM, by omega, upd_same, ?_, ?_, fun h hh => ?_⟩
      · rw [List.map_append]
        exact dpAll_append (dpAll_tk tk _ _ (noL_hands _) (dpAll_tk (Tk.kept DA kAD) _ _ (noL_hands _) dus)) (.cons (.tup (tk _ _ _ (.inl (.inl eD))) (.cons (.str _) (.cons (.tup (tk _ _ _ (Same.tup sD qC)) (dpAll_tk tk _ _ (noL_rows _) (dpAll_same sD _ _ dC))) .nil))) .nil)
      · rw [List.map_append, eqs, List.take_add_one, gy, List.map_append]
        congr 1
        show [(y.1, plainR p n os2)] = [(y.1, plainR p n y.2)]
        rw [plain_same F okC oky in1 in2]
      · rcases List.mem_append.mp hh with hh | hh
        · exact rms2 h hh
        · rw [List.mem_singleton.mp hh]
          exact ⟨okC, by show os2.length ≤ 4; omega⟩
    obtain ⟨kA, tA, us, os, DA, htA, eMA, dus, eqs, rms2⟩ := hP
    have lwh : ws.length = hs.length := lws
    rw [List.take_of_length_le (by omega)] at eqs
    have lus := dpAll_len dus
    rw [List.length_map] at lus
    have los : os.length = hs.length := by
      have := congrArg List.length eqs
      rw [List.length_map, List.length_map] at this
      exact this
    have fsts : os.map Prod.fst = hs.map Prod.fst := by
      have := congrArg (List.map Prod.fst) eqs
      rw [List.map_map, List.map_map] at this
      exact this
    refine ⟨M, us, rfl, .inl ⟨.inl (.inl eMA), fun g2 ng2 => ?_⟩⟩
    dsimp only
    generalize hC : upd HA g2 _ = HC
    obtain ⟨sC, eC⟩ := new_of hC ng2
    have DC := DA.same sC
    have BbC := (B9.kept D9 kA).same sC
    have dgC := dpAll_same sC _ _ dus
    refine fun e dy ne ndy nbd2 => ?_
    generalize hD : upd (upd HC dy (.own e)) e _ = HD
    have sD : Same HC HD := fun z o ez => by
      have q1 : z ≠ e := fun y => by rw [y, ne] at ez; cases ez
      have q2 : z ≠ dy := fun y => by rw [y, ndy] at ez; cases ez
      rw [← hD, upd_ne q1, upd_ne q2]
      exact ez
    have eD : HD e = some (.ins (adr mg "Book") dy []) := by rw [← hD]; exact upd_same
    have BbD := BbC.same sD
    have nbe : b ≠ e := fun z => by
      obtain ⟨dxb, fs, eb⟩ := BbC.ins
      rw [z, ne] at eb
      cases eb
    refine ⟨e, dy, g2, p, n, os, rfl, eD, .tup (Same.tup sD (.inl (.inl eC))) (dpAll_same sD _ _ dgC), fun HE xE BE => ⟨rfl, ?_⟩⟩
    have DE : Deck HE d c tA := deck_xcI (DC.same sD) eD xE
    have mE : Mv mg HD HE := xE.mvI eD rfl
    have BbE : BookAt K mg HE b _ := BbD.mv mE fun o eo => xE _ _ eo nbe
    -- both at their first moment
    generalize hnm : hs.map Prod.fst = nmL at fsts
    have fst' : nmL = xs := by rw [← hnm]; exact fst
    have Mh := mom_start79 (hs := hs) F (by omega) n1 n8 rms (by omega) (by omega) (by rw [fst]; exact so) (by rw [fst]; exact nd) (by rw [fst]; exact nm)
    have Mo := mom_start79 (hs := os) F (by omega) n1 n8 rms2 (by omega) (by omega) (by rw [fsts, fst']; exact so) (by rw [fsts, fst']; exact nd) (by rw [fsts, fst']; exact nm)
    have Iq : BookI p n nmL 4 ⟨.tuple [.int p, .int (n : Int), .tuple (hs.map handD)], [⟨p, n, [], hs⟩], [], [], false⟩ := ⟨rfl, (fun m hm => by
      rw [List.mem_singleton.mp hm]
      exact ⟨Mh, rfl, rfl, hnm⟩), (fun x r hx => nomatch hx), Nat.zero_le _, rfl⟩
    have Ir : BookI p n nmL 4 ⟨.tuple [.int p, .int (n : Int), .tuple (os.map handD)], [⟨p, n, [], os⟩], [], [], false⟩ := ⟨rfl, (fun m hm => by
      rw [List.mem_singleton.mp hm]
      exact ⟨Mo, rfl, rfl, fsts⟩), (fun x r hx => nomatch hx), Nat.zero_le _, rfl⟩
    have A0 : Alike p n nmL ⟨p, n, [], hs⟩ ⟨p, n, [], os⟩ := ⟨rfl, rfl, hnm, rfl, rfl, fsts, rfl, eqs.symm⟩
    have all0 : ∀ (j : Nat) (m u : Mom), ([⟨p, n, [], hs⟩] : List Mom)[j]? = some m → ([⟨p, n, [], os⟩] : List Mom)[j]? = some u → Alike p n nmL m u := fun j m u gm gu => by
      match j, gm, gu with
      | 0, gm, gu =>
        cases gm
        cases gu
        exact A0
    refine ⟨.ref d, rfl, d, c, tA, 9, rfl, DE, by omega, by decide, by decide, fun HF z kF DF z0 z1 => ⟨z, rfl, by omega, by omega, for_range (lo := 0) (n := z.toNat) (fun i σ H' => ∃ (q r : BookS) (t' : Int) (y9 : Option V), Deck H' d c t' ∧ t' ≤ tA + 1 + 1000 * i ∧ BookAt K mg H' b q ∧ BookAt K mg H' e r ∧ BookI p n nmL (4 + 8 * i) q ∧ BookI p n nmL (4 + 8 * i) r ∧ q.deeds.length = i ∧ r.deeds.length = i ∧ (∀ (j : Nat) (m u : Mom), q.moms[j]? = some m → r.moms[j]? = some u → Alike p n nmL m u) ∧ σ = [some (.ref a), some (.ref d), some (.int p), some (.int (n : Int)), none, some (.ref g), some (.ref b), none, some (.ref e), y9]) ⟨_, _, tA + 1, none, DF, by omega, BbE.kept DE kF, BE.kept DE kF, Iq, Ir, rfl, rfl, all0, rfl⟩ (fun i σ HG hi hW => ?_) (fun σ HG hW => ?_)⟩⟩
    · obtain ⟨q, r, t', y9, D', ht', Bq, Br, Jq, Jr, fq, fr, all, rfl⟩ := hW
      obtain ⟨m, gm, M1, e1, e2, e3⟩ := Jq.last
      obtain ⟨u, gu, U1, f1, f2, f3⟩ := Jr.last
      have lq := Jq.len
      have lr := Jr.len
      have el : r.moms.length = q.moms.length := by omega
      have A1 := all _ m u gm (by rw [← el]; exact gu)
      refine ⟨.ref d, rfl, .ref b, rfl, .ref e, rfl, .int p, rfl, .int n, rfl, d, c, b, e, t', p, n, nmL, 4 + 8 * i, q, r, m, u, rfl, D', by omega, nbe, Bq, Br, Jq, Jr, by omega, by omega, gm, gu, A1, by omega, fun HH t2 m' u' d1 d2 D2 ht2 B1 B2 I1 I2 A' => ?_⟩
      have lq1 := I1.len
      have lr1 := I2.len
      have gm' := push_last q m' d1
      have gu' := push_last r u' d2
      have fq1 : (q.push m' d1).deeds.length = i + 1 := by
        show (q.deeds ++ [d1]).length = i + 1
        rw [List.length_append, fq]
        rfl
      have fr1 : (r.push u' d2).deeds.length = i + 1 := by
        show (r.deeds ++ [d2]).length = i + 1
        rw [List.length_append, fr]
        rfl
      have el1 : (r.push u' d2).moms.length = (q.push m' d1).moms.length := by omega
      have M' : MomOk 100 m' := ((I1.ok _ (List.mem_of_getElem? gm')).1).mono (by omega)
      have U' : MomOk 100 u' := ((I2.ok _ (List.mem_of_getElem? gu')).1).mono (by omega)
      have all' : ∀ (j : Nat) (m u : Mom), (q.push m' d1).moms[j]? = some m → (r.push u' d2).moms[j]? = some u → Alike p n nmL m u := fun j m u gm gu => by
        have gm : (q.moms ++ [m'])[j]? = some m := gm
        have gu : (r.moms ++ [u'])[j]? = some u := gu
        by_cases hj : j < q.moms.length
        · rw [List.getElem?_append_left hj] at gm
          rw [List.getElem?_append_left (by omega)] at gu
          exact all j m u gm gu
        · have hj1 : j = q.moms.length := by
            have := (List.getElem?_eq_some_iff.mp gm).1
            rw [List.length_append, List.length_singleton] at this
            omega
          subst hj1
          rw [List.getElem?_append_right (Nat.le_refl _), Nat.sub_self] at gm
          rw [← el, List.getElem?_append_right (Nat.le_refl _), Nat.sub_self] at gu
          cases gm
          cases gu
          exact A'
      refine ⟨.ref b, rfl, .ref e, rfl, b, e, .non, _, p, n, nmL, _, _, m', u', rfl, B1, B2, ⟨by omega, .inl ⟨rfl, by omega⟩⟩, ⟨by omega, .inl ⟨rfl, by omega⟩⟩, gm', by rw [← el1]; exact gu', M', U', A', fun HI sI => ⟨true, rfl, iteF ?_⟩⟩
      exact ⟨_, _, t2, _, D2.same sI, by omega, B1.same sI, B2.same sI, I1, I2, fq1, fr1, all', rfl⟩
    · obtain ⟨q, r, t', y9, D', ht', Bq, Br, Jq, Jr, fq, fr, all, rfl⟩ := hW
      obtain ⟨m, gm, M1, e1, e2, e3⟩ := Jq.last
      obtain ⟨u, gu, U1, f1, f2, f3⟩ := Jr.last
      have lq := Jq.len
      have lr := Jr.len
      have el : r.moms.length = q.moms.length := by omega
      have gu2 : r.moms[q.moms.length - 1]? = some u := by rw [← el]; exact gu
      refine ⟨.ref b, rfl, .ref e, rfl, b, e, .non, _, p, n, nmL, _, _, m, u, rfl, Bq, Br, ⟨by omega, .inl ⟨rfl, by omega⟩⟩, ⟨by omega, .inl ⟨rfl, by omega⟩⟩, gm, gu2, M1.mono (by omega), U1.mono (by omega), all _ m u gm gu2, fun HI sI => ?_⟩
      have few := Jq.len
      have few2 : q.deeds.length ≤ 8 := by omega
      obtain ⟨dxb, fs, eb, nfb⟩ := (Bq.same sI).noF
      refine ⟨true, rfl, iteT ⟨.ref b, rfl, .ref e, rfl, .ref d, rfl, .ref b, rfl, b, dxb, fs, rfl, eb, b, q, rfl, Bq.same sI, q.deeds.length, rfl, by omega, _, 1, rfl, rfl, d, c, t', _, rfl, D'.same sI, by omega, by omega, by omega, fun HJ z kJ DJ z0 z1 => ?_⟩⟩
      obtain ⟨j, rfl⟩ : ∃ j : Nat, z = (j : Int) := ⟨z.toNat, by omega⟩
      have hj : j < q.moms.length := by omega
      have gj : q.moms[j]? = some (q.moms[j]) := List.getElem?_eq_getElem hj
      have gj2 : r.moms[j]? = some (r.moms[j]'(by omega)) := List.getElem?_eq_getElem (by omega)
      have Mj := (Jq.ok _ (List.mem_of_getElem? gj)).1
      have Uj := (Jr.ok _ (List.mem_of_getElem? gj2)).1
      exact ⟨b, e, .int j, j, p, n, nmL, _, _, _, _, rfl, (Bq.same sI).kept (D'.same sI) kJ, (Br.same sI).kept (D'.same sI) kJ, ⟨hj, .inr rfl⟩, ⟨by omega, .inr rfl⟩, gj, gj2, Mj.mono (by omega), Uj.mono (by omega), all j _ _ gj gj2, fun HK sK => qq HK⟩
end
end OC
set_option Elab.async false
set_option linter.all false
set_option maxRecDepth 100000
namespace OC
open PySem PySem.Spec PyProof.Rows L2
/-! ### the end -/
set_option maxHeartbeats 8000000 in
theorem all_mk {l : PySem.W.OpenLaw} {w : World} {K : PySem.W.Frag} {h : Heap} {mg : Str → Option Value} {fa : Addr} (X : K.In h) (G : h.Ns mainGlobals mg) (hfa : mg "law" = some (.ref fa))
    {LMoment : Addr} (qaMoment : PySem.W.nsIn K mainGlobals "Moment" = some (some (.ref LMoment))) (qpMoment : PySem.W.plainGet K LMoment Str.empty = true) (qhMoment : PySem.W.hasDictIn K LMoment = true) (qoMoment : PySem.W.plainOver K LMoment = true) (qsMoment : PySem.W.findIn K (.ref LMoment) "__setattr__" = some (some (.builtin "object.__setattr__"))) (qmMoment : PySem.W.makesIn K LMoment = true) (qkMoment : PySem.W.keepIn K (.ref LMoment) = true)
    (qnMoment_p : PySem.W.findIn K (.ref LMoment) "p" = some none)
    (qnMoment_n : PySem.W.findIn K (.ref LMoment) "n" = some none)
    (qnMoment_called : PySem.W.findIn K (.ref LMoment) "called" = some none)
    (qnMoment_hands : PySem.W.findIn K (.ref LMoment) "hands" = some none)
    {LBook : Addr} (qaBook : PySem.W.nsIn K mainGlobals "Book" = some (some (.ref LBook))) (qpBook : PySem.W.plainGet K LBook Str.empty = true) (qhBook : PySem.W.hasDictIn K LBook = true) (qoBook : PySem.W.plainOver K LBook = true) (qsBook : PySem.W.findIn K (.ref LBook) "__setattr__" = some (some (.builtin "object.__setattr__"))) (qmBook : PySem.W.makesIn K LBook = true) (qkBook : PySem.W.keepIn K (.ref LBook) = true)
    (qnBook_made : PySem.W.findIn K (.ref LBook) "made" = some none)
    (qnBook_moments : PySem.W.findIn K (.ref LBook) "moments" = some none)
    (qnBook_done : PySem.W.findIn K (.ref LBook) "done" = some none)
    (qnBook_trials : PySem.W.findIn K (.ref LBook) "trials" = some none)
    (qnBook_amid : PySem.W.findIn K (.ref LBook) "amid" = some none)
    {tLETTERS : Tok} (qcLETTERS : PySem.W.nsIn K mainGlobals "LETTERS" = some (some (.str "abcdefghijklmnopqrstuvwxyz" tLETTERS)))
    {tDEEDS : Tok} (qcDEEDS : PySem.W.nsIn K mainGlobals "DEEDS" = some (some (.int 60 tDEEDS)))
    {f0 : Addr} {od0 an0 : Option Addr} {sl0 : Array (Option Value)} {oc0 kV0 dc0 pm0 cd0 ct0 : Value}
    (a0 : PySem.W.nsIn K mainGlobals "is_name" = some (some (.ref f0))) (l0 : K.lookup f0 = some ⟨oc0, od0, .func (PySem.W.fnOf "is_name" "is_name" (defArgs s_is_name) (defBody s_is_name) (defScope s_is_name) .none kV0 dc0 pm0 an0 cd0 ct0), sl0⟩) (c0 : PySem.W.codeIn K cd0 "is_name" = true) (k0 : PySem.W.keepIn K (.ref f0) = true)
    {f1 : Addr} {od1 an1 : Option Addr} {sl1 : Array (Option Value)} {oc1 kV1 dc1 pm1 cd1 ct1 : Value}
    (a1 : PySem.W.nsIn K mainGlobals "is_rising" = some (some (.ref f1))) (l1 : K.lookup f1 = some ⟨oc1, od1, .func (PySem.W.fnOf "is_rising" "is_rising" (defArgs s_is_rising) (defBody s_is_rising) (defScope s_is_rising) .none kV1 dc1 pm1 an1 cd1 ct1), sl1⟩) (c1 : PySem.W.codeIn K cd1 "is_rising" = true) (k1 : PySem.W.keepIn K (.ref f1) = true)
    {f2 : Addr} {od2 an2 : Option Addr} {sl2 : Array (Option Value)} {oc2 kV2 dc2 pm2 cd2 ct2 : Value}
    (a2 : PySem.W.nsIn K mainGlobals "are_names" = some (some (.ref f2))) (l2 : K.lookup f2 = some ⟨oc2, od2, .func (PySem.W.fnOf "are_names" "are_names" (defArgs s_are_names) (defBody s_are_names) (defScope s_are_names) .none kV2 dc2 pm2 an2 cd2 ct2), sl2⟩) (c2 : PySem.W.codeIn K cd2 "are_names" = true) (k2 : PySem.W.keepIn K (.ref f2) = true)
    {f3 : Addr} {od3 an3 : Option Addr} {sl3 : Array (Option Value)} {oc3 kV3 dc3 pm3 cd3 ct3 : Value}
    (a3 : PySem.W.nsIn K mainGlobals "is_number" = some (some (.ref f3))) (l3 : K.lookup f3 = some ⟨oc3, od3, .func (PySem.W.fnOf "is_number" "is_number" (defArgs s_is_number) (defBody s_is_number) (defScope s_is_number) .none kV3 dc3 pm3 an3 cd3 ct3), sl3⟩) (c3 : PySem.W.codeIn K cd3 "is_number" = true) (k3 : PySem.W.keepIn K (.ref f3) = true)
    {f4 : Addr} {od4 an4 : Option Addr} {sl4 : Array (Option Value)} {oc4 kV4 dc4 pm4 cd4 ct4 : Value}
    (a4 : PySem.W.nsIn K mainGlobals "is_rest" = some (some (.ref f4))) (l4 : K.lookup f4 = some ⟨oc4, od4, .func (PySem.W.fnOf "is_rest" "is_rest" (defArgs s_is_rest) (defBody s_is_rest) (defScope s_is_rest) .none kV4 dc4 pm4 an4 cd4 ct4), sl4⟩) (c4 : PySem.W.codeIn K cd4 "is_rest" = true) (k4 : PySem.W.keepIn K (.ref f4) = true)
    {f5 : Addr} {od5 an5 : Option Addr} {sl5 : Array (Option Value)} {oc5 kV5 dc5 pm5 cd5 ct5 : Value}
    (a5 : PySem.W.nsIn K mainGlobals "contrary" = some (some (.ref f5))) (l5 : K.lookup f5 = some ⟨oc5, od5, .func (PySem.W.fnOf "contrary" "contrary" (defArgs s_contrary) (defBody s_contrary) (defScope s_contrary) .none kV5 dc5 pm5 an5 cd5 ct5), sl5⟩) (c5 : PySem.W.codeIn K cd5 "contrary" = true) (k5 : PySem.W.keepIn K (.ref f5) = true)
    {f6 : Addr} {od6 an6 : Option Addr} {sl6 : Array (Option Value)} {oc6 kV6 dc6 pm6 cd6 ct6 : Value}
    (a6 : PySem.W.nsIn K mainGlobals "is_row" = some (some (.ref f6))) (l6 : K.lookup f6 = some ⟨oc6, od6, .func (PySem.W.fnOf "is_row" "is_row" (defArgs s_is_row) (defBody s_is_row) (defScope s_is_row) .none kV6 dc6 pm6 an6 cd6 ct6), sl6⟩) (c6 : PySem.W.codeIn K cd6 "is_row" = true) (k6 : PySem.W.keepIn K (.ref f6) = true)
    {f7 : Addr} {od7 an7 : Option Addr} {sl7 : Array (Option Value)} {oc7 kV7 dc7 pm7 cd7 ct7 : Value}
    (a7 : PySem.W.nsIn K mainGlobals "added" = some (some (.ref f7))) (l7 : K.lookup f7 = some ⟨oc7, od7, .func (PySem.W.fnOf "added" "added" (defArgs s_added) (defBody s_added) (defScope s_added) .none kV7 dc7 pm7 an7 cd7 ct7), sl7⟩) (c7 : PySem.W.codeIn K cd7 "added" = true) (k7 : PySem.W.keepIn K (.ref f7) = true)
    {f8 : Addr} {od8 an8 : Option Addr} {sl8 : Array (Option Value)} {oc8 kV8 dc8 pm8 cd8 ct8 : Value}
    (a8 : PySem.W.nsIn K mainGlobals "times" = some (some (.ref f8))) (l8 : K.lookup f8 = some ⟨oc8, od8, .func (PySem.W.fnOf "times" "times" (defArgs s_times) (defBody s_times) (defScope s_times) .none kV8 dc8 pm8 an8 cd8 ct8), sl8⟩) (c8 : PySem.W.codeIn K cd8 "times" = true) (k8 : PySem.W.keepIn K (.ref f8) = true)
    {f9 : Addr} {od9 an9 : Option Addr} {sl9 : Array (Option Value)} {oc9 kV9 dc9 pm9 cd9 ct9 : Value}
    (a9 : PySem.W.nsIn K mainGlobals "check_hand" = some (some (.ref f9))) (l9 : K.lookup f9 = some ⟨oc9, od9, .func (PySem.W.fnOf "check_hand" "check_hand" (defArgs s_check_hand) (defBody s_check_hand) (defScope s_check_hand) .none kV9 dc9 pm9 an9 cd9 ct9), sl9⟩) (c9 : PySem.W.codeIn K cd9 "check_hand" = true) (k9 : PySem.W.keepIn K (.ref f9) = true)
    {f10 : Addr} {od10 an10 : Option Addr} {sl10 : Array (Option Value)} {oc10 kV10 dc10 pm10 cd10 ct10 : Value}
    (a10 : PySem.W.nsIn K mainGlobals "check_hands" = some (some (.ref f10))) (l10 : K.lookup f10 = some ⟨oc10, od10, .func (PySem.W.fnOf "check_hands" "check_hands" (defArgs s_check_hands) (defBody s_check_hands) (defScope s_check_hands) .none kV10 dc10 pm10 an10 cd10 ct10), sl10⟩) (c10 : PySem.W.codeIn K cd10 "check_hands" = true) (k10 : PySem.W.keepIn K (.ref f10) = true)
    {f11 : Addr} {od11 an11 : Option Addr} {sl11 : Array (Option Value)} {oc11 kV11 dc11 pm11 cd11 ct11 : Value}
    (a11 : PySem.W.nsIn K mainGlobals "check_row" = some (some (.ref f11))) (l11 : K.lookup f11 = some ⟨oc11, od11, .func (PySem.W.fnOf "check_row" "check_row" (defArgs s_check_row) (defBody s_check_row) (defScope s_check_row) .none kV11 dc11 pm11 an11 cd11 ct11), sl11⟩) (c11 : PySem.W.codeIn K cd11 "check_row" = true) (k11 : PySem.W.keepIn K (.ref f11) = true)
    {f12 : Addr} {od12 an12 : Option Addr} {sl12 : Array (Option Value)} {oc12 kV12 dc12 pm12 cd12 ct12 : Value}
    (a12 : PySem.W.nsIn K mainGlobals "is_noughts" = some (some (.ref f12))) (l12 : K.lookup f12 = some ⟨oc12, od12, .func (PySem.W.fnOf "is_noughts" "is_noughts" (defArgs s_is_noughts) (defBody s_is_noughts) (defScope s_is_noughts) .none kV12 dc12 pm12 an12 cd12 ct12), sl12⟩) (c12 : PySem.W.codeIn K cd12 "is_noughts" = true) (k12 : PySem.W.keepIn K (.ref f12) = true)
    {f13 : Addr} {od13 an13 : Option Addr} {sl13 : Array (Option Value)} {oc13 kV13 dc13 pm13 cd13 ct13 : Value}
    (a13 : PySem.W.nsIn K mainGlobals "first_place" = some (some (.ref f13))) (l13 : K.lookup f13 = some ⟨oc13, od13, .func (PySem.W.fnOf "first_place" "first_place" (defArgs s_first_place) (defBody s_first_place) (defScope s_first_place) .none kV13 dc13 pm13 an13 cd13 ct13), sl13⟩) (c13 : PySem.W.codeIn K cd13 "first_place" = true) (k13 : PySem.W.keepIn K (.ref f13) = true)
    {f14 : Addr} {od14 an14 : Option Addr} {sl14 : Array (Option Value)} {oc14 kV14 dc14 pm14 cd14 ct14 : Value}
    (a14 : PySem.W.nsIn K mainGlobals "cleared" = some (some (.ref f14))) (l14 : K.lookup f14 = some ⟨oc14, od14, .func (PySem.W.fnOf "cleared" "cleared" (defArgs s_cleared) (defBody s_cleared) (defScope s_cleared) .none kV14 dc14 pm14 an14 cd14 ct14), sl14⟩) (c14 : PySem.W.codeIn K cd14 "cleared" = true) (k14 : PySem.W.keepIn K (.ref f14) = true)
    {f15 : Addr} {od15 an15 : Option Addr} {sl15 : Array (Option Value)} {oc15 kV15 dc15 pm15 cd15 ct15 : Value}
    (a15 : PySem.W.nsIn K mainGlobals "left_of" = some (some (.ref f15))) (l15 : K.lookup f15 = some ⟨oc15, od15, .func (PySem.W.fnOf "left_of" "left_of" (defArgs s_left_of) (defBody s_left_of) (defScope s_left_of) .none kV15 dc15 pm15 an15 cd15 ct15), sl15⟩) (c15 : PySem.W.codeIn K cd15 "left_of" = true) (k15 : PySem.W.keepIn K (.ref f15) = true)
    {f16 : Addr} {od16 an16 : Option Addr} {sl16 : Array (Option Value)} {oc16 kV16 dc16 pm16 cd16 ct16 : Value}
    (a16 : PySem.W.nsIn K mainGlobals "widened" = some (some (.ref f16))) (l16 : K.lookup f16 = some ⟨oc16, od16, .func (PySem.W.fnOf "widened" "widened" (defArgs s_widened) (defBody s_widened) (defScope s_widened) .none kV16 dc16 pm16 an16 cd16 ct16), sl16⟩) (c16 : PySem.W.codeIn K cd16 "widened" = true) (k16 : PySem.W.keepIn K (.ref f16) = true)
    {f17 : Addr} {od17 an17 : Option Addr} {sl17 : Array (Option Value)} {oc17 kV17 dc17 pm17 cd17 ct17 : Value}
    (a17 : PySem.W.nsIn K mainGlobals "room_of" = some (some (.ref f17))) (l17 : K.lookup f17 = some ⟨oc17, od17, .func (PySem.W.fnOf "room_of" "room_of" (defArgs s_room_of) (defBody s_room_of) (defScope s_room_of) .none kV17 dc17 pm17 an17 cd17 ct17), sl17⟩) (c17 : PySem.W.codeIn K cd17 "room_of" = true) (k17 : PySem.W.keepIn K (.ref f17) = true)
    {f18 : Addr} {od18 an18 : Option Addr} {sl18 : Array (Option Value)} {oc18 kV18 dc18 pm18 cd18 ct18 : Value}
    (a18 : PySem.W.nsIn K mainGlobals "within" = some (some (.ref f18))) (l18 : K.lookup f18 = some ⟨oc18, od18, .func (PySem.W.fnOf "within" "within" (defArgs s_within) (defBody s_within) (defScope s_within) .none kV18 dc18 pm18 an18 cd18 ct18), sl18⟩) (c18 : PySem.W.codeIn K cd18 "within" = true) (k18 : PySem.W.keepIn K (.ref f18) = true)
    {f19 : Addr} {od19 an19 : Option Addr} {sl19 : Array (Option Value)} {oc19 kV19 dc19 pm19 cd19 ct19 : Value}
    (a19 : PySem.W.nsIn K mainGlobals "joined" = some (some (.ref f19))) (l19 : K.lookup f19 = some ⟨oc19, od19, .func (PySem.W.fnOf "joined" "joined" (defArgs s_joined) (defBody s_joined) (defScope s_joined) .none kV19 dc19 pm19 an19 cd19 ct19), sl19⟩) (c19 : PySem.W.codeIn K cd19 "joined" = true) (k19 : PySem.W.keepIn K (.ref f19) = true)
    {f20 : Addr} {od20 an20 : Option Addr} {sl20 : Array (Option Value)} {oc20 kV20 dc20 pm20 cd20 ct20 : Value}
    (a20 : PySem.W.nsIn K mainGlobals "shared" = some (some (.ref f20))) (l20 : K.lookup f20 = some ⟨oc20, od20, .func (PySem.W.fnOf "shared" "shared" (defArgs s_shared) (defBody s_shared) (defScope s_shared) .none kV20 dc20 pm20 an20 cd20 ct20), sl20⟩) (c20 : PySem.W.codeIn K cd20 "shared" = true) (k20 : PySem.W.keepIn K (.ref f20) = true)
    {f21 : Addr} {od21 an21 : Option Addr} {sl21 : Array (Option Value)} {oc21 kV21 dc21 pm21 cd21 ct21 : Value}
    (a21 : PySem.W.nsIn K mainGlobals "across" = some (some (.ref f21))) (l21 : K.lookup f21 = some ⟨oc21, od21, .func (PySem.W.fnOf "across" "across" (defArgs s_across) (defBody s_across) (defScope s_across) .none kV21 dc21 pm21 an21 cd21 ct21), sl21⟩) (c21 : PySem.W.codeIn K cd21 "across" = true) (k21 : PySem.W.keepIn K (.ref f21) = true)
    {f22 : Addr} {od22 an22 : Option Addr} {sl22 : Array (Option Value)} {oc22 kV22 dc22 pm22 cd22 ct22 : Value}
    (a22 : PySem.W.nsIn K mainGlobals "across_at" = some (some (.ref f22))) (l22 : K.lookup f22 = some ⟨oc22, od22, .func (PySem.W.fnOf "across_at" "across_at" (defArgs s_across_at) (defBody s_across_at) (defScope s_across_at) .none kV22 dc22 pm22 an22 cd22 ct22), sl22⟩) (c22 : PySem.W.codeIn K cd22 "across_at" = true) (k22 : PySem.W.keepIn K (.ref f22) = true)
    {f23 : Addr} {od23 an23 : Option Addr} {sl23 : Array (Option Value)} {oc23 kV23 dc23 pm23 cd23 ct23 : Value}
    (a23 : PySem.W.nsIn K mainGlobals "needed" = some (some (.ref f23))) (l23 : K.lookup f23 = some ⟨oc23, od23, .func (PySem.W.fnOf "needed" "needed" (defArgs s_needed) (defBody s_needed) (defScope s_needed) .none kV23 dc23 pm23 an23 cd23 ct23), sl23⟩) (c23 : PySem.W.codeIn K cd23 "needed" = true) (k23 : PySem.W.keepIn K (.ref f23) = true)
    {f24 : Addr} {od24 an24 : Option Addr} {sl24 : Array (Option Value)} {oc24 kV24 dc24 pm24 cd24 ct24 : Value}
    (a24 : PySem.W.nsIn K mainGlobals "names_at" = some (some (.ref f24))) (l24 : K.lookup f24 = some ⟨oc24, od24, .func (PySem.W.fnOf "names_at" "names_at" (defArgs s_names_at) (defBody s_names_at) (defScope s_names_at) .none kV24 dc24 pm24 an24 cd24 ct24), sl24⟩) (c24 : PySem.W.codeIn K cd24 "names_at" = true) (k24 : PySem.W.keepIn K (.ref f24) = true)
    {f25 : Addr} {od25 an25 : Option Addr} {sl25 : Array (Option Value)} {oc25 kV25 dc25 pm25 cd25 ct25 : Value}
    (a25 : PySem.W.nsIn K mainGlobals "heard_at" = some (some (.ref f25))) (l25 : K.lookup f25 = some ⟨oc25, od25, .func (PySem.W.fnOf "heard_at" "heard_at" (defArgs s_heard_at) (defBody s_heard_at) (defScope s_heard_at) .none kV25 dc25 pm25 an25 cd25 ct25), sl25⟩) (c25 : PySem.W.codeIn K cd25 "heard_at" = true) (k25 : PySem.W.keepIn K (.ref f25) = true)
    {f26 : Addr} {od26 an26 : Option Addr} {sl26 : Array (Option Value)} {oc26 kV26 dc26 pm26 cd26 ct26 : Value}
    (a26 : PySem.W.nsIn K mainGlobals "known_at" = some (some (.ref f26))) (l26 : K.lookup f26 = some ⟨oc26, od26, .func (PySem.W.fnOf "known_at" "known_at" (defArgs s_known_at) (defBody s_known_at) (defScope s_known_at) .none kV26 dc26 pm26 an26 cd26 ct26), sl26⟩) (c26 : PySem.W.codeIn K cd26 "known_at" = true) (k26 : PySem.W.keepIn K (.ref f26) = true)
    {f27 : Addr} {od27 an27 : Option Addr} {sl27 : Array (Option Value)} {oc27 kV27 dc27 pm27 cd27 ct27 : Value}
    (a27 : PySem.W.nsIn K mainGlobals "common_at" = some (some (.ref f27))) (l27 : K.lookup f27 = some ⟨oc27, od27, .func (PySem.W.fnOf "common_at" "common_at" (defArgs s_common_at) (defBody s_common_at) (defScope s_common_at) .none kV27 dc27 pm27 an27 cd27 ct27), sl27⟩) (c27 : PySem.W.codeIn K cd27 "common_at" = true) (k27 : PySem.W.keepIn K (.ref f27) = true)
    {f28 : Addr} {od28 an28 : Option Addr} {sl28 : Array (Option Value)} {oc28 kV28 dc28 pm28 cd28 ct28 : Value}
    (a28 : PySem.W.nsIn K mainGlobals "stand_at" = some (some (.ref f28))) (l28 : K.lookup f28 = some ⟨oc28, od28, .func (PySem.W.fnOf "stand_at" "stand_at" (defArgs s_stand_at) (defBody s_stand_at) (defScope s_stand_at) .none kV28 dc28 pm28 an28 cd28 ct28), sl28⟩) (c28 : PySem.W.codeIn K cd28 "stand_at" = true) (k28 : PySem.W.keepIn K (.ref f28) = true)
    {f29 : Addr} {od29 an29 : Option Addr} {sl29 : Array (Option Value)} {oc29 kV29 dc29 pm29 cd29 ct29 : Value}
    (a29 : PySem.W.nsIn K mainGlobals "after_call" = some (some (.ref f29))) (l29 : K.lookup f29 = some ⟨oc29, od29, .func (PySem.W.fnOf "after_call" "after_call" (defArgs s_after_call) (defBody s_after_call) (defScope s_after_call) .none kV29 dc29 pm29 an29 cd29 ct29), sl29⟩) (c29 : PySem.W.codeIn K cd29 "after_call" = true) (k29 : PySem.W.keepIn K (.ref f29) = true)
    {f30 : Addr} {od30 an30 : Option Addr} {sl30 : Array (Option Value)} {oc30 kV30 dc30 pm30 cd30 ct30 : Value}
    (a30 : PySem.W.nsIn K mainGlobals "after_whisper" = some (some (.ref f30))) (l30 : K.lookup f30 = some ⟨oc30, od30, .func (PySem.W.fnOf "after_whisper" "after_whisper" (defArgs s_after_whisper) (defBody s_after_whisper) (defScope s_after_whisper) .none kV30 dc30 pm30 an30 cd30 ct30), sl30⟩) (c30 : PySem.W.codeIn K cd30 "after_whisper" = true) (k30 : PySem.W.keepIn K (.ref f30) = true)
    {f31 : Addr} {od31 an31 : Option Addr} {sl31 : Array (Option Value)} {oc31 kV31 dc31 pm31 cd31 ct31 : Value}
    (a31 : PySem.W.nsIn K mainGlobals "after_meet" = some (some (.ref f31))) (l31 : K.lookup f31 = some ⟨oc31, od31, .func (PySem.W.fnOf "after_meet" "after_meet" (defArgs s_after_meet) (defBody s_after_meet) (defScope s_after_meet) .none kV31 dc31 pm31 an31 cd31 ct31), sl31⟩) (c31 : PySem.W.codeIn K cd31 "after_meet" = true) (k31 : PySem.W.keepIn K (.ref f31) = true)
    {f32 : Addr} {od32 an32 : Option Addr} {sl32 : Array (Option Value)} {oc32 kV32 dc32 pm32 cd32 ct32 : Value}
    (a32 : PySem.W.nsIn K mainGlobals "news" = some (some (.ref f32))) (l32 : K.lookup f32 = some ⟨oc32, od32, .func (PySem.W.fnOf "news" "news" (defArgs s_news) (defBody s_news) (defScope s_news) .none kV32 dc32 pm32 an32 cd32 ct32), sl32⟩) (c32 : PySem.W.codeIn K cd32 "news" = true) (k32 : PySem.W.keepIn K (.ref f32) = true)
    {f33 : Addr} {od33 an33 : Option Addr} {sl33 : Array (Option Value)} {oc33 kV33 dc33 pm33 cd33 ct33 : Value}
    (a33 : PySem.W.nsIn K mainGlobals "after" = some (some (.ref f33))) (l33 : K.lookup f33 = some ⟨oc33, od33, .func (PySem.W.fnOf "after" "after" (defArgs s_after) (defBody s_after) (defScope s_after) .none kV33 dc33 pm33 an33 cd33 ct33), sl33⟩) (c33 : PySem.W.codeIn K cd33 "after" = true) (k33 : PySem.W.keepIn K (.ref f33) = true)
    {f34 : Addr} {od34 an34 : Option Addr} {sl34 : Array (Option Value)} {oc34 kV34 dc34 pm34 cd34 ct34 : Value}
    (a34 : PySem.W.nsIn K mainGlobals "_law_deck" = some (some (.ref f34))) (l34 : K.lookup f34 = some ⟨oc34, od34, .func (PySem.W.fnOf "_law_deck" "_law_deck" (defArgs s__law_deck) (defBody s__law_deck) (defScope s__law_deck) .none kV34 dc34 pm34 an34 cd34 ct34), sl34⟩) (c34 : PySem.W.codeIn K cd34 "_law_deck" = true) (k34 : PySem.W.keepIn K (.ref f34) = true)
    {f35 : Addr} {od35 an35 : Option Addr} {sl35 : Array (Option Value)} {oc35 kV35 dc35 pm35 cd35 ct35 : Value}
    (a35 : PySem.W.nsIn K mainGlobals "_law_draw" = some (some (.ref f35))) (l35 : K.lookup f35 = some ⟨oc35, od35, .func (PySem.W.fnOf "_law_draw" "_law_draw" (defArgs s__law_draw) (defBody s__law_draw) (defScope s__law_draw) .none kV35 dc35 pm35 an35 cd35 ct35), sl35⟩) (c35 : PySem.W.codeIn K cd35 "_law_draw" = true) (k35 : PySem.W.keepIn K (.ref f35) = true)
    {f36 : Addr} {od36 an36 : Option Addr} {sl36 : Array (Option Value)} {oc36 kV36 dc36 pm36 cd36 ct36 : Value}
    (a36 : PySem.W.nsIn K mainGlobals "_law_prime" = some (some (.ref f36))) (l36 : K.lookup f36 = some ⟨oc36, od36, .func (PySem.W.fnOf "_law_prime" "_law_prime" (defArgs s__law_prime) (defBody s__law_prime) (defScope s__law_prime) .none kV36 dc36 pm36 an36 cd36 ct36), sl36⟩) (c36 : PySem.W.codeIn K cd36 "_law_prime" = true) (k36 : PySem.W.keepIn K (.ref f36) = true)
    {f37 : Addr} {od37 an37 : Option Addr} {sl37 : Array (Option Value)} {oc37 kV37 dc37 pm37 cd37 ct37 : Value}
    (a37 : PySem.W.nsIn K mainGlobals "_law_row" = some (some (.ref f37))) (l37 : K.lookup f37 = some ⟨oc37, od37, .func (PySem.W.fnOf "_law_row" "_law_row" (defArgs s__law_row) (defBody s__law_row) (defScope s__law_row) .none kV37 dc37 pm37 an37 cd37 ct37), sl37⟩) (c37 : PySem.W.codeIn K cd37 "_law_row" = true) (k37 : PySem.W.keepIn K (.ref f37) = true)
    {f38 : Addr} {od38 an38 : Option Addr} {sl38 : Array (Option Value)} {oc38 kV38 dc38 pm38 cd38 ct38 : Value}
    (a38 : PySem.W.nsIn K mainGlobals "_law_plus" = some (some (.ref f38))) (l38 : K.lookup f38 = some ⟨oc38, od38, .func (PySem.W.fnOf "_law_plus" "_law_plus" (defArgs s__law_plus) (defBody s__law_plus) (defScope s__law_plus) .none kV38 dc38 pm38 an38 cd38 ct38), sl38⟩) (c38 : PySem.W.codeIn K cd38 "_law_plus" = true) (k38 : PySem.W.keepIn K (.ref f38) = true)
    {f39 : Addr} {od39 an39 : Option Addr} {sl39 : Array (Option Value)} {oc39 kV39 dc39 pm39 cd39 ct39 : Value}
    (a39 : PySem.W.nsIn K mainGlobals "_law_mixed" = some (some (.ref f39))) (l39 : K.lookup f39 = some ⟨oc39, od39, .func (PySem.W.fnOf "_law_mixed" "_law_mixed" (defArgs s__law_mixed) (defBody s__law_mixed) (defScope s__law_mixed) .none kV39 dc39 pm39 an39 cd39 ct39), sl39⟩) (c39 : PySem.W.codeIn K cd39 "_law_mixed" = true) (k39 : PySem.W.keepIn K (.ref f39) = true)
    {f40 : Addr} {od40 an40 : Option Addr} {sl40 : Array (Option Value)} {oc40 kV40 dc40 pm40 cd40 ct40 : Value}
    (a40 : PySem.W.nsIn K mainGlobals "_law_rows" = some (some (.ref f40))) (l40 : K.lookup f40 = some ⟨oc40, od40, .func (PySem.W.fnOf "_law_rows" "_law_rows" (defArgs s__law_rows) (defBody s__law_rows) (defScope s__law_rows) .none kV40 dc40 pm40 an40 cd40 ct40), sl40⟩) (c40 : PySem.W.codeIn K cd40 "_law_rows" = true) (k40 : PySem.W.keepIn K (.ref f40) = true)
    {f41 : Addr} {od41 an41 : Option Addr} {sl41 : Array (Option Value)} {oc41 kV41 dc41 pm41 cd41 ct41 : Value}
    (a41 : PySem.W.nsIn K mainGlobals "_law_turned" = some (some (.ref f41))) (l41 : K.lookup f41 = some ⟨oc41, od41, .func (PySem.W.fnOf "_law_turned" "_law_turned" (defArgs s__law_turned) (defBody s__law_turned) (defScope s__law_turned) .none kV41 dc41 pm41 an41 cd41 ct41), sl41⟩) (c41 : PySem.W.codeIn K cd41 "_law_turned" = true) (k41 : PySem.W.keepIn K (.ref f41) = true)
    {f42 : Addr} {od42 an42 : Option Addr} {sl42 : Array (Option Value)} {oc42 kV42 dc42 pm42 cd42 ct42 : Value}
    (a42 : PySem.W.nsIn K mainGlobals "_law_names" = some (some (.ref f42))) (l42 : K.lookup f42 = some ⟨oc42, od42, .func (PySem.W.fnOf "_law_names" "_law_names" (defArgs s__law_names) (defBody s__law_names) (defScope s__law_names) .none kV42 dc42 pm42 an42 cd42 ct42), sl42⟩) (c42 : PySem.W.codeIn K cd42 "_law_names" = true) (k42 : PySem.W.keepIn K (.ref f42) = true)
    {f43 : Addr} {od43 an43 : Option Addr} {sl43 : Array (Option Value)} {oc43 kV43 dc43 pm43 cd43 ct43 : Value}
    (a43 : PySem.W.nsIn K mainGlobals "_law_otherwise" = some (some (.ref f43))) (l43 : K.lookup f43 = some ⟨oc43, od43, .func (PySem.W.fnOf "_law_otherwise" "_law_otherwise" (defArgs s__law_otherwise) (defBody s__law_otherwise) (defScope s__law_otherwise) .none kV43 dc43 pm43 an43 cd43 ct43), sl43⟩) (c43 : PySem.W.codeIn K cd43 "_law_otherwise" = true) (k43 : PySem.W.keepIn K (.ref f43) = true)
    {f44 : Addr} {od44 an44 : Option Addr} {sl44 : Array (Option Value)} {oc44 kV44 dc44 pm44 cd44 ct44 : Value}
    (a44 : PySem.W.nsIn K mainGlobals "_law_deed" = some (some (.ref f44))) (l44 : K.lookup f44 = some ⟨oc44, od44, .func (PySem.W.fnOf "_law_deed" "_law_deed" (defArgs s__law_deed) (defBody s__law_deed) (defScope s__law_deed) .none kV44 dc44 pm44 an44 cd44 ct44), sl44⟩) (c44 : PySem.W.codeIn K cd44 "_law_deed" = true) (k44 : PySem.W.keepIn K (.ref f44) = true)
    {f45 : Addr} {od45 an45 : Option Addr} {sl45 : Array (Option Value)} {oc45 kV45 dc45 pm45 cd45 ct45 : Value}
    (a45 : PySem.W.nsIn K mainGlobals "_law_alike" = some (some (.ref f45))) (l45 : K.lookup f45 = some ⟨oc45, od45, .func (PySem.W.fnOf "_law_alike" "_law_alike" (defArgs s__law_alike) (defBody s__law_alike) (defScope s__law_alike) .none kV45 dc45 pm45 an45 cd45 ct45), sl45⟩) (c45 : PySem.W.codeIn K cd45 "_law_alike" = true) (k45 : PySem.W.keepIn K (.ref f45) = true)
    {f46 : Addr} {od46 an46 : Option Addr} {sl46 : Array (Option Value)} {oc46 kV46 dc46 pm46 cd46 ct46 : Value}
    (a46 : PySem.W.nsIn K mainGlobals "law" = some (some (.ref f46))) (l46 : K.lookup f46 = some ⟨oc46, od46, .func (PySem.W.fnOf "law" "law" (defArgs s_law) (defBody s_law) (defScope s_law) .none kV46 dc46 pm46 an46 cd46 ct46), sl46⟩) (c46 : PySem.W.codeIn K cd46 "law" = true) (k46 : PySem.W.keepIn K (.ref f46) = true)
    {f47 : Addr} {od47 an47 : Option Addr} {sl47 : Array (Option Value)} {oc47 kV47 dc47 pm47 cd47 ct47 : Value}
    (a47 : PySem.W.findIn K (.ref LMoment) "__init__" = some (some (.ref f47))) (i47 : PySem.W.isFn K (.ref f47) = true) (l47 : K.lookup f47 = some ⟨oc47, od47, .func (PySem.W.fnOf "__init__" "Moment.__init__" (defArgs s_Moment___init__) (defBody s_Moment___init__) (defScope s_Moment___init__) .none kV47 dc47 pm47 an47 cd47 ct47), sl47⟩) (c47 : PySem.W.codeIn K cd47 "Moment.__init__" = true) (k47 : PySem.W.keepIn K (.ref f47) = true)
    {f48 : Addr} {od48 an48 : Option Addr} {sl48 : Array (Option Value)} {oc48 kV48 dc48 pm48 cd48 ct48 : Value}
    (a48 : PySem.W.findIn K (.ref LBook) "__init__" = some (some (.ref f48))) (i48 : PySem.W.isFn K (.ref f48) = true) (l48 : K.lookup f48 = some ⟨oc48, od48, .func (PySem.W.fnOf "__init__" "Book.__init__" (defArgs s_Book___init__) (defBody s_Book___init__) (defScope s_Book___init__) .none kV48 dc48 pm48 an48 cd48 ct48), sl48⟩) (c48 : PySem.W.codeIn K cd48 "Book.__init__" = true) (k48 : PySem.W.keepIn K (.ref f48) = true)
    {f49 : Addr} {od49 an49 : Option Addr} {sl49 : Array (Option Value)} {oc49 kV49 dc49 pm49 cd49 ct49 : Value}
    (a49 : PySem.W.findIn K (.ref LBook) "__len__" = some (some (.ref f49))) (i49 : PySem.W.isFn K (.ref f49) = true) (l49 : K.lookup f49 = some ⟨oc49, od49, .func (PySem.W.fnOf "__len__" "Book.__len__" (defArgs s_Book___len__) (defBody s_Book___len__) (defScope s_Book___len__) .none kV49 dc49 pm49 an49 cd49 ct49), sl49⟩) (c49 : PySem.W.codeIn K cd49 "Book.__len__" = true) (k49 : PySem.W.keepIn K (.ref f49) = true)
    {f50 : Addr} {od50 an50 : Option Addr} {sl50 : Array (Option Value)} {oc50 kV50 dc50 pm50 cd50 ct50 : Value}
    (a50 : PySem.W.findIn K (.ref LBook) "now" = some (some (.ref f50))) (i50 : PySem.W.isFn K (.ref f50) = true) (l50 : K.lookup f50 = some ⟨oc50, od50, .func (PySem.W.fnOf "now" "Book.now" (defArgs s_Book_now) (defBody s_Book_now) (defScope s_Book_now) .none kV50 dc50 pm50 an50 cd50 ct50), sl50⟩) (c50 : PySem.W.codeIn K cd50 "Book.now" = true) (k50 : PySem.W.keepIn K (.ref f50) = true)
    {f51 : Addr} {od51 an51 : Option Addr} {sl51 : Array (Option Value)} {oc51 kV51 dc51 pm51 cd51 ct51 : Value}
    (a51 : PySem.W.findIn K (.ref LBook) "refuse_amid" = some (some (.ref f51))) (i51 : PySem.W.isFn K (.ref f51) = true) (l51 : K.lookup f51 = some ⟨oc51, od51, .func (PySem.W.fnOf "refuse_amid" "Book.refuse_amid" (defArgs s_Book_refuse_amid) (defBody s_Book_refuse_amid) (defScope s_Book_refuse_amid) .none kV51 dc51 pm51 an51 cd51 ct51), sl51⟩) (c51 : PySem.W.codeIn K cd51 "Book.refuse_amid" = true) (k51 : PySem.W.keepIn K (.ref f51) = true)
    {f52 : Addr} {od52 an52 : Option Addr} {sl52 : Array (Option Value)} {oc52 kV52 dc52 pm52 cd52 ct52 : Value}
    (a52 : PySem.W.findIn K (.ref LBook) "perform" = some (some (.ref f52))) (i52 : PySem.W.isFn K (.ref f52) = true) (l52 : K.lookup f52 = some ⟨oc52, od52, .func (PySem.W.fnOf "perform" "Book.perform" (defArgs s_Book_perform) (defBody s_Book_perform) (defScope s_Book_perform) .none kV52 dc52 pm52 an52 cd52 ct52), sl52⟩) (c52 : PySem.W.codeIn K cd52 "Book.perform" = true) (k52 : PySem.W.keepIn K (.ref f52) = true)
    {f53 : Addr} {od53 an53 : Option Addr} {sl53 : Array (Option Value)} {oc53 kV53 dc53 pm53 cd53 ct53 : Value}
    (a53 : PySem.W.findIn K (.ref LBook) "call" = some (some (.ref f53))) (i53 : PySem.W.isFn K (.ref f53) = true) (l53 : K.lookup f53 = some ⟨oc53, od53, .func (PySem.W.fnOf "call" "Book.call" (defArgs s_Book_call) (defBody s_Book_call) (defScope s_Book_call) .none kV53 dc53 pm53 an53 cd53 ct53), sl53⟩) (c53 : PySem.W.codeIn K cd53 "Book.call" = true) (k53 : PySem.W.keepIn K (.ref f53) = true)
    {f54 : Addr} {od54 an54 : Option Addr} {sl54 : Array (Option Value)} {oc54 kV54 dc54 pm54 cd54 ct54 : Value}
    (a54 : PySem.W.findIn K (.ref LBook) "whisper" = some (some (.ref f54))) (i54 : PySem.W.isFn K (.ref f54) = true) (l54 : K.lookup f54 = some ⟨oc54, od54, .func (PySem.W.fnOf "whisper" "Book.whisper" (defArgs s_Book_whisper) (defBody s_Book_whisper) (defScope s_Book_whisper) .none kV54 dc54 pm54 an54 cd54 ct54), sl54⟩) (c54 : PySem.W.codeIn K cd54 "Book.whisper" = true) (k54 : PySem.W.keepIn K (.ref f54) = true)
    {f55 : Addr} {od55 an55 : Option Addr} {sl55 : Array (Option Value)} {oc55 kV55 dc55 pm55 cd55 ct55 : Value}
    (a55 : PySem.W.findIn K (.ref LBook) "meet" = some (some (.ref f55))) (i55 : PySem.W.isFn K (.ref f55) = true) (l55 : K.lookup f55 = some ⟨oc55, od55, .func (PySem.W.fnOf "meet" "Book.meet" (defArgs s_Book_meet) (defBody s_Book_meet) (defScope s_Book_meet) .none kV55 dc55 pm55 an55 cd55 ct55), sl55⟩) (c55 : PySem.W.codeIn K cd55 "Book.meet" = true) (k55 : PySem.W.keepIn K (.ref f55) = true)
    {f56 : Addr} {od56 an56 : Option Addr} {sl56 : Array (Option Value)} {oc56 kV56 dc56 pm56 cd56 ct56 : Value}
    (a56 : PySem.W.findIn K (.ref LBook) "moment_at" = some (some (.ref f56))) (i56 : PySem.W.isFn K (.ref f56) = true) (l56 : K.lookup f56 = some ⟨oc56, od56, .func (PySem.W.fnOf "moment_at" "Book.moment_at" (defArgs s_Book_moment_at) (defBody s_Book_moment_at) (defScope s_Book_moment_at) .none kV56 dc56 pm56 an56 cd56 ct56), sl56⟩) (c56 : PySem.W.codeIn K cd56 "Book.moment_at" = true) (k56 : PySem.W.keepIn K (.ref f56) = true)
    {f57 : Addr} {od57 an57 : Option Addr} {sl57 : Array (Option Value)} {oc57 kV57 dc57 pm57 cd57 ct57 : Value}
    (a57 : PySem.W.findIn K (.ref LBook) "moment_of" = some (some (.ref f57))) (i57 : PySem.W.isFn K (.ref f57) = true) (l57 : K.lookup f57 = some ⟨oc57, od57, .func (PySem.W.fnOf "moment_of" "Book.moment_of" (defArgs s_Book_moment_of) (defBody s_Book_moment_of) (defScope s_Book_moment_of) .none kV57 dc57 pm57 an57 cd57 ct57), sl57⟩) (c57 : PySem.W.codeIn K cd57 "Book.moment_of" = true) (k57 : PySem.W.keepIn K (.ref f57) = true)
    {f58 : Addr} {od58 an58 : Option Addr} {sl58 : Array (Option Value)} {oc58 kV58 dc58 pm58 cd58 ct58 : Value}
    (a58 : PySem.W.findIn K (.ref LBook) "names" = some (some (.ref f58))) (i58 : PySem.W.isFn K (.ref f58) = true) (l58 : K.lookup f58 = some ⟨oc58, od58, .func (PySem.W.fnOf "names" "Book.names" (defArgs s_Book_names) (defBody s_Book_names) (defScope s_Book_names) .none kV58 dc58 pm58 an58 cd58 ct58), sl58⟩) (c58 : PySem.W.codeIn K cd58 "Book.names" = true) (k58 : PySem.W.keepIn K (.ref f58) = true)
    {D58 : Addr} (h58 : kV58 = .ref D58) (n58 : PySem.W.nsIn K D58 "at" = some (some .none))
    {f59 : Addr} {od59 an59 : Option Addr} {sl59 : Array (Option Value)} {oc59 kV59 dc59 pm59 cd59 ct59 : Value}
    (a59 : PySem.W.findIn K (.ref LBook) "heard" = some (some (.ref f59))) (i59 : PySem.W.isFn K (.ref f59) = true) (l59 : K.lookup f59 = some ⟨oc59, od59, .func (PySem.W.fnOf "heard" "Book.heard" (defArgs s_Book_heard) (defBody s_Book_heard) (defScope s_Book_heard) .none kV59 dc59 pm59 an59 cd59 ct59), sl59⟩) (c59 : PySem.W.codeIn K cd59 "Book.heard" = true) (k59 : PySem.W.keepIn K (.ref f59) = true)
    {D59 : Addr} (h59 : kV59 = .ref D59) (n59 : PySem.W.nsIn K D59 "at" = some (some .none))
    {f60 : Addr} {od60 an60 : Option Addr} {sl60 : Array (Option Value)} {oc60 kV60 dc60 pm60 cd60 ct60 : Value}
    (a60 : PySem.W.findIn K (.ref LBook) "known" = some (some (.ref f60))) (i60 : PySem.W.isFn K (.ref f60) = true) (l60 : K.lookup f60 = some ⟨oc60, od60, .func (PySem.W.fnOf "known" "Book.known" (defArgs s_Book_known) (defBody s_Book_known) (defScope s_Book_known) .none kV60 dc60 pm60 an60 cd60 ct60), sl60⟩) (c60 : PySem.W.codeIn K cd60 "Book.known" = true) (k60 : PySem.W.keepIn K (.ref f60) = true)
    {D60 : Addr} (h60 : kV60 = .ref D60) (n60 : PySem.W.nsIn K D60 "at" = some (some .none))
    {f61 : Addr} {od61 an61 : Option Addr} {sl61 : Array (Option Value)} {oc61 kV61 dc61 pm61 cd61 ct61 : Value}
    (a61 : PySem.W.findIn K (.ref LBook) "common" = some (some (.ref f61))) (i61 : PySem.W.isFn K (.ref f61) = true) (l61 : K.lookup f61 = some ⟨oc61, od61, .func (PySem.W.fnOf "common" "Book.common" (defArgs s_Book_common) (defBody s_Book_common) (defScope s_Book_common) .none kV61 dc61 pm61 an61 cd61 ct61), sl61⟩) (c61 : PySem.W.codeIn K cd61 "Book.common" = true) (k61 : PySem.W.keepIn K (.ref f61) = true)
    {D61 : Addr} (h61 : kV61 = .ref D61) (n61 : PySem.W.nsIn K D61 "at" = some (some .none))
    {f62 : Addr} {od62 an62 : Option Addr} {sl62 : Array (Option Value)} {oc62 kV62 dc62 pm62 cd62 ct62 : Value}
    (a62 : PySem.W.findIn K (.ref LBook) "knows" = some (some (.ref f62))) (i62 : PySem.W.isFn K (.ref f62) = true) (l62 : K.lookup f62 = some ⟨oc62, od62, .func (PySem.W.fnOf "knows" "Book.knows" (defArgs s_Book_knows) (defBody s_Book_knows) (defScope s_Book_knows) .none kV62 dc62 pm62 an62 cd62 ct62), sl62⟩) (c62 : PySem.W.codeIn K cd62 "Book.knows" = true) (k62 : PySem.W.keepIn K (.ref f62) = true)
    {D62 : Addr} (h62 : kV62 = .ref D62) (n62 : PySem.W.nsIn K D62 "at" = some (some .none))
    {f63 : Addr} {od63 an63 : Option Addr} {sl63 : Array (Option Value)} {oc63 kV63 dc63 pm63 cd63 ct63 : Value}
    (a63 : PySem.W.findIn K (.ref LBook) "stand" = some (some (.ref f63))) (i63 : PySem.W.isFn K (.ref f63) = true) (l63 : K.lookup f63 = some ⟨oc63, od63, .func (PySem.W.fnOf "stand" "Book.stand" (defArgs s_Book_stand) (defBody s_Book_stand) (defScope s_Book_stand) .none kV63 dc63 pm63 an63 cd63 ct63), sl63⟩) (c63 : PySem.W.codeIn K cd63 "Book.stand" = true) (k63 : PySem.W.keepIn K (.ref f63) = true)
    {D63 : Addr} (h63 : kV63 = .ref D63) (n63 : PySem.W.nsIn K D63 "at" = some (some .none))
    (z_abs : PySem.W.nsIn K mainGlobals "abs" = some none)
    (z_all : PySem.W.nsIn K mainGlobals "all" = some none)
    (z_bool : PySem.W.nsIn K mainGlobals "bool" = some none)
    (z_enumerate : PySem.W.nsIn K mainGlobals "enumerate" = some none)
    (z_int : PySem.W.nsIn K mainGlobals "int" = some none)
    (z_isinstance : PySem.W.nsIn K mainGlobals "isinstance" = some none)
    (z_len : PySem.W.nsIn K mainGlobals "len" = some none)
    (z_list : PySem.W.nsIn K mainGlobals "list" = some none)
    (z_range : PySem.W.nsIn K mainGlobals "range" = some none)
    (z_repr : PySem.W.nsIn K mainGlobals "repr" = some none)
    (z_sorted : PySem.W.nsIn K mainGlobals "sorted" = some none)
    (z_str : PySem.W.nsIn K mainGlobals "str" = some none)
    (z_tuple : PySem.W.nsIn K mainGlobals "tuple" = some none)
    (z_zip : PySem.W.nsIn K mainGlobals "zip" = some none)
    {DS : Addr} {esS : Array DictEntry} {nS : Nat} (qS : PySem.W.nsIn K mainGlobals "STEPS" = some (some (.ref DS))) (qD : K.lookup DS = some ⟨.type "dict", none, .dict esS nS, #[]⟩) (qL : PySem.W.KeysLit w.params esS.toList)
    (x_call : PySem.W.nsIn K DS "call" = some (some (.ref f29))) (x_whisper : PySem.W.nsIn K DS "whisper" = some (some (.ref f30))) (x_meet : PySem.W.nsIn K DS "meet" = some (some (.ref f31)))
    : ∃ fd : FuncData, (∀ (s : Shared) (v : Value), BindsTo s fd ⟨[v], []⟩ [("_law_script", v)]) ∧ ∀ base : Heap, K.In base → base.Ns mainGlobals mg → HasSys base → FnG l.prog w K mg base CX0 15 fa fd ["_law_script"] (sp_law K) := by
  have e := hfa.symm.trans (PySem.W.mg_of X G a46)
  cases e
  have T : Top K mg := {
    k_Moment := clsN_of X G qaMoment qpMoment qhMoment qoMoment qsMoment qmMoment qkMoment,
    na_Moment_p := noA_of X G qaMoment qnMoment_p,
    na_Moment_n := noA_of X G qaMoment qnMoment_n,
    na_Moment_called := noA_of X G qaMoment qnMoment_called,
    na_Moment_hands := noA_of X G qaMoment qnMoment_hands,
    k_Book := clsN_of X G qaBook qpBook qhBook qoBook qsBook qmBook qkBook,
    na_Book_made := noA_of X G qaBook qnBook_made,
    na_Book_moments := noA_of X G qaBook qnBook_moments,
    na_Book_done := noA_of X G qaBook qnBook_done,
    na_Book_trials := noA_of X G qaBook qnBook_trials,
    na_Book_amid := noA_of X G qaBook qnBook_amid,
    c_LETTERS := ⟨_, PySem.W.mg_of X G qcLETTERS⟩,
    c_DEEDS := ⟨_, PySem.W.mg_of X G qcDEEDS⟩,
    d_Moment___init__ := dfM_of X G qaMoment a47 i47 l47 c47 k47 (fun _ _ _ _ _ _ us hl => match us, hl with | [_, _, _, _, _], _ => rfl),
    d_Book___init__ := dfM_of X G qaBook a48 i48 l48 c48 k48 (fun _ _ _ _ _ _ us hl => match us, hl with | [_, _, _, _], _ => rfl),
    d_Book___len__ := dfM_of X G qaBook a49 i49 l49 c49 k49 (fun _ _ _ _ _ _ us hl => match us, hl with | [_], _ => rfl),
    d_Book_now := dfM_of X G qaBook a50 i50 l50 c50 k50 (fun _ _ _ _ _ _ us hl => match us, hl with | [_], _ => rfl),
    d_Book_refuse_amid := dfM_of X G qaBook a51 i51 l51 c51 k51 (fun _ _ _ _ _ _ us hl => match us, hl with | [_], _ => rfl),
    d_Book_perform := dfM_of X G qaBook a52 i52 l52 c52 k52 (fun _ _ _ _ _ _ us hl => match us, hl with | [_, _], _ => rfl),
    d_Book_call := dfM_of X G qaBook a53 i53 l53 c53 k53 (fun _ _ _ _ _ _ us hl => match us, hl with | [_, _, _], _ => rfl),
    d_Book_whisper := dfM_of X G qaBook a54 i54 l54 c54 k54 (fun _ _ _ _ _ _ us hl => match us, hl with | [_, _, _], _ => rfl),
    d_Book_meet := dfM_of X G qaBook a55 i55 l55 c55 k55 (fun _ _ _ _ _ _ us hl => match us, hl with | [_, _], _ => rfl),
    d_Book_moment_at := dfM_of X G qaBook a56 i56 l56 c56 k56 (fun _ _ _ _ _ _ us hl => match us, hl with | [_, _], _ => rfl),
    d_Book_moment_of := dfM_of X G qaBook a57 i57 l57 c57 k57 (fun _ _ _ _ _ _ us hl => match us, hl with | [_, _, _, _], _ => rfl),
    d_Book_names := dfMD_of (n := 1) X G qaBook a58 i58 l58 c58 k58 h58 n58 (fun _ _ _ _ _ _ us hl => match us, hl with | [_], _ => ⟨_, _, _, _, _, _, rfl, rfl, rfl⟩),
    d_Book_heard := dfMD_of (n := 2) X G qaBook a59 i59 l59 c59 k59 h59 n59 (fun _ _ _ _ _ _ us hl => match us, hl with | [_, _], _ => ⟨_, _, _, _, _, _, rfl, rfl, rfl⟩),
    d_Book_known := dfMD_of (n := 2) X G qaBook a60 i60 l60 c60 k60 h60 n60 (fun _ _ _ _ _ _ us hl => match us, hl with | [_, _], _ => ⟨_, _, _, _, _, _, rfl, rfl, rfl⟩),
    d_Book_common := dfMD_of (n := 2) X G qaBook a61 i61 l61 c61 k61 h61 n61 (fun _ _ _ _ _ _ us hl => match us, hl with | [_, _], _ => ⟨_, _, _, _, _, _, rfl, rfl, rfl⟩),
    d_Book_knows := dfMD_of (n := 3) X G qaBook a62 i62 l62 c62 k62 h62 n62 (fun _ _ _ _ _ _ us hl => match us, hl with | [_, _, _], _ => ⟨_, _, _, _, _, _, rfl, rfl, rfl⟩),
    d_Book_stand := dfMD_of (n := 1) X G qaBook a63 i63 l63 c63 k63 h63 n63 (fun _ _ _ _ _ _ us hl => match us, hl with | [_], _ => ⟨_, _, _, _, _, _, rfl, rfl, rfl⟩),
    b_abs := PySem.W.mg_none_of X G z_abs,
    b_all := PySem.W.mg_none_of X G z_all,
    b_bool := PySem.W.mg_none_of X G z_bool,
    b_enumerate := PySem.W.mg_none_of X G z_enumerate,
    b_int := PySem.W.mg_none_of X G z_int,
    b_isinstance := PySem.W.mg_none_of X G z_isinstance,
    b_len := PySem.W.mg_none_of X G z_len,
    b_list := PySem.W.mg_none_of X G z_list,
    b_range := PySem.W.mg_none_of X G z_range,
    b_repr := PySem.W.mg_none_of X G z_repr,
    b_sorted := PySem.W.mg_none_of X G z_sorted,
    b_str := PySem.W.mg_none_of X G z_str,
    b_tuple := PySem.W.mg_none_of X G z_tuple,
    b_zip := PySem.W.mg_none_of X G z_zip,
    d_is_name := df_of X G a0 l0 c0 k0 (fun _ _ _ _ _ _ us hl => match us, hl with | [_], _ => rfl),
    d_is_rising := df_of X G a1 l1 c1 k1 (fun _ _ _ _ _ _ us hl => match us, hl with | [_], _ => rfl),
    d_are_names := df_of X G a2 l2 c2 k2 (fun _ _ _ _ _ _ us hl => match us, hl with | [_], _ => rfl),
    d_is_number := df_of X G a3 l3 c3 k3 (fun _ _ _ _ _ _ us hl => match us, hl with | [_], _ => rfl),
    d_is_rest := df_of X G a4 l4 c4 k4 (fun _ _ _ _ _ _ us hl => match us, hl with | [_, _], _ => rfl),
    d_contrary := df_of X G a5 l5 c5 k5 (fun _ _ _ _ _ _ us hl => match us, hl with | [_, _], _ => rfl),
    d_is_row := df_of X G a6 l6 c6 k6 (fun _ _ _ _ _ _ us hl => match us, hl with | [_, _, _], _ => rfl),
    d_added := df_of X G a7 l7 c7 k7 (fun _ _ _ _ _ _ us hl => match us, hl with | [_, _, _], _ => rfl),
    d_times := df_of X G a8 l8 c8 k8 (fun _ _ _ _ _ _ us hl => match us, hl with | [_, _, _], _ => rfl),
    d_check_hand := df_of X G a9 l9 c9 k9 (fun _ _ _ _ _ _ us hl => match us, hl with | [_, _], _ => rfl),
    d_check_hands := df_of X G a10 l10 c10 k10 (fun _ _ _ _ _ _ us hl => match us, hl with | [_, _, _], _ => rfl),
    d_check_row := df_of X G a11 l11 c11 k11 (fun _ _ _ _ _ _ us hl => match us, hl with | [_, _, _], _ => rfl),
    d_is_noughts := df_of X G a12 l12 c12 k12 (fun _ _ _ _ _ _ us hl => match us, hl with | [_], _ => rfl),
    d_first_place := df_of X G a13 l13 c13 k13 (fun _ _ _ _ _ _ us hl => match us, hl with | [_], _ => rfl),
    d_cleared := df_of X G a14 l14 c14 k14 (fun _ _ _ _ _ _ us hl => match us, hl with | [_, _, _], _ => rfl),
    d_left_of := df_of X G a15 l15 c15 k15 (fun _ _ _ _ _ _ us hl => match us, hl with | [_, _, _], _ => rfl),
    d_widened := df_of X G a16 l16 c16 k16 (fun _ _ _ _ _ _ us hl => match us, hl with | [_, _, _], _ => rfl),
    d_room_of := df_of X G a17 l17 c17 k17 (fun _ _ _ _ _ _ us hl => match us, hl with | [_, _, _], _ => rfl),
    d_within := df_of X G a18 l18 c18 k18 (fun _ _ _ _ _ _ us hl => match us, hl with | [_, _, _], _ => rfl),
    d_joined := df_of X G a19 l19 c19 k19 (fun _ _ _ _ _ _ us hl => match us, hl with | [_, _, _, _], _ => rfl),
    d_shared := df_of X G a20 l20 c20 k20 (fun _ _ _ _ _ _ us hl => match us, hl with | [_, _, _, _], _ => rfl),
    d_across := df_of X G a21 l21 c21 k21 (fun _ _ _ _ _ _ us hl => match us, hl with | [_, _, _], _ => rfl),
    d_across_at := df_of X G a22 l22 c22 k22 (fun _ _ _ _ _ _ us hl => match us, hl with | [_, _, _, _], _ => rfl),
    d_needed := df_of X G a23 l23 c23 k23 (fun _ _ _ _ _ _ us hl => match us, hl with | [_, _, _], _ => rfl),
    d_names_at := df_of X G a24 l24 c24 k24 (fun _ _ _ _ _ _ us hl => match us, hl with | [_], _ => rfl),
    d_heard_at := df_of X G a25 l25 c25 k25 (fun _ _ _ _ _ _ us hl => match us, hl with | [_, _], _ => rfl),
    d_known_at := df_of X G a26 l26 c26 k26 (fun _ _ _ _ _ _ us hl => match us, hl with | [_, _], _ => rfl),
    d_common_at := df_of X G a27 l27 c27 k27 (fun _ _ _ _ _ _ us hl => match us, hl with | [_, _], _ => rfl),
    d_stand_at := df_of X G a28 l28 c28 k28 (fun _ _ _ _ _ _ us hl => match us, hl with | [_], _ => rfl),
    d_after_call := df_of X G a29 l29 c29 k29 (fun _ _ _ _ _ _ us hl => match us, hl with | [_, _, _], _ => rfl),
    d_after_whisper := df_of X G a30 l30 c30 k30 (fun _ _ _ _ _ _ us hl => match us, hl with | [_, _, _], _ => rfl),
    d_after_meet := df_of X G a31 l31 c31 k31 (fun _ _ _ _ _ _ us hl => match us, hl with | [_, _], _ => rfl),
    d_news := df_of X G a32 l32 c32 k32 (fun _ _ _ _ _ _ us hl => match us, hl with | [_, _, _], _ => rfl),
    d_after := df_of X G a33 l33 c33 k33 (fun _ _ _ _ _ _ us hl => match us, hl with | [_, _], _ => rfl),
    d__law_deck := df_of X G a34 l34 c34 k34 (fun _ _ _ _ _ _ us hl => match us, hl with | [_], _ => rfl),
    d__law_draw := df_of X G a35 l35 c35 k35 (fun _ _ _ _ _ _ us hl => match us, hl with | [_, _], _ => rfl),
    d__law_prime := df_of X G a36 l36 c36 k36 (fun _ _ _ _ _ _ us hl => match us, hl with | [_], _ => rfl),
    d__law_row := df_of X G a37 l37 c37 k37 (fun _ _ _ _ _ _ us hl => match us, hl with | [_, _, _], _ => rfl),
    d__law_plus := df_of X G a38 l38 c38 k38 (fun _ _ _ _ _ _ us hl => match us, hl with | [_, _, _, _], _ => rfl),
    d__law_mixed := df_of X G a39 l39 c39 k39 (fun _ _ _ _ _ _ us hl => match us, hl with | [_, _, _, _], _ => rfl),
    d__law_rows := df_of X G a40 l40 c40 k40 (fun _ _ _ _ _ _ us hl => match us, hl with | [_, _, _, _], _ => rfl),
    d__law_turned := df_of X G a41 l41 c41 k41 (fun _ _ _ _ _ _ us hl => match us, hl with | [_, _], _ => rfl),
    d__law_names := df_of X G a42 l42 c42 k42 (fun _ _ _ _ _ _ us hl => match us, hl with | [_, _], _ => rfl),
    d__law_otherwise := df_of X G a43 l43 c43 k43 (fun _ _ _ _ _ _ us hl => match us, hl with | [_, _, _, _], _ => rfl),
    d__law_deed := df_of X G a44 l44 c44 k44 (fun _ _ _ _ _ _ us hl => match us, hl with | [_, _, _, _, _], _ => rfl),
    d__law_alike := df_of X G a45 l45 c45 k45 (fun _ _ _ _ _ _ us hl => match us, hl with | [_, _, _], _ => rfl) }
  have gS := PySem.W.mg_of X G qS
  have W : StepsW w K mg := ⟨by rw [adr_of gS]; exact gS, fun x f hf => by
    rw [adr_of gS]
    simp only [List.mem_cons, List.not_mem_nil, or_false, Prod.mk.injEq] at hf
    rcases hf with ⟨rfl, rfl⟩ | ⟨rfl, rfl⟩ | ⟨rfl, rfl⟩
    · rw [adr_of (PySem.W.mg_of X G a29)]; exact ⟨esS, nS, _, qD, qL, x_call, rfl⟩
    · rw [adr_of (PySem.W.mg_of X G a30)]; exact ⟨esS, nS, _, qD, qL, x_whisper, rfl⟩
    · rw [adr_of (PySem.W.mg_of X G a31)]; exact ⟨esS, nS, _, qD, qL, x_meet, rfl⟩⟩
  have F := fun_mk (st := s_law) l46 c46 k46
  exact ⟨PySem.W.fnOf "law" "law" (defArgs s_law) (defBody s_law) (defScope s_law) .none kV46 dc46 pm46 an46 cd46 ct46, fun s v => .of_eq rfl, fun base _ _ hs => ok_law T W hs F⟩
end OC
open PySem PySem.W PyProof.Rows
set_option Elab.async false
set_option maxRecDepth 100000 in
set_option maxHeartbeats 0 in
theorem PySem.Challenge.cw_opencalls_k79_whole_rooms_alone_holds : PySem.Challenge.rw_opencalls_k79_whole_rooms_alone.Holds := by
  w_on; o_law
  refine HandSHeadRun.head_any (r := OpenLaw.row PySem.Challenge.rw_opencalls_k79_whole_rooms_alone) (q := view (OpenLaw.row PySem.Challenge.rw_opencalls_k79_whole_rooms_alone).prog [87]) (H := kHook OCR.K0 OCR.as0 OCR.as_ok) (ob := OCR.ob) (M := 20000) (loose := OCR.names) (d := HandSHeadRun.topDef (OpenLaw.row PySem.Challenge.rw_opencalls_k79_whole_rooms_alone).prog 87) (kwd := []) OCR.ob_eq
    (by kernel_rfl) (fun s => by kernel_rfl) OCR.run (by kernel_rfl) (by kernel_rfl) (by kernel_rfl) (by rfl) (by first | assumption | decide +kernel) (by decide +kernel) ⟨rfl, rfl, rfl, rfl, rfl, by decide +kernel⟩ ?hw ?hc
  case hw => w_witness2
  case hc =>
    k_fill
    refine OC.walk_ofS (l := PySem.Challenge.rw_opencalls_k79_whole_rooms_alone) (n := 63) (k := 15) (x := "_law_script") (CX := fun _ => L2.CX0) (sp := fun w => OC.sp_law _) rfl (by decide) (by kernel_rfl) ⟨rfl, by decide, by decide⟩ (by decide +kernel) (K := OCR.K0) (fun w h Y => PySem.W.kIn_of Y) ?F (fun _ _ a ns hl _ hS => ⟨a, ns, rfl, hS, hl, fun _ => rfl⟩) (fun _ _ _ _ _ h => h)
    case F =>
      intro w mg fa h KX G hmg0
      have hmg : mg ("law" : PySem.Str) = some (.ref fa) := by
        have e : (HandSHeadRun.topDef (OpenLaw.row PySem.Challenge.rw_opencalls_k79_whole_rooms_alone).prog 87).name = ("law" : PySem.Str) := by kernel_rfl
        rw [← e]
        exact hmg0
      refine' OC.all_mk KX G hmg ?qaMoment ?qpMoment ?qhMoment ?qoMoment ?qsMoment ?qmMoment ?qkMoment ?qnMoment_p ?qnMoment_n ?qnMoment_called ?qnMoment_hands ?qaBook ?qpBook ?qhBook ?qoBook ?qsBook ?qmBook ?qkBook ?qnBook_made ?qnBook_moments ?qnBook_done ?qnBook_trials ?qnBook_amid ?qcLETTERS ?qcDEEDS ?a0 ?l0 ?c0 ?k0 ?a1 ?l1 ?c1 ?k1 ?a2 ?l2 ?c2 ?k2 ?a3 ?l3 ?c3 ?k3 ?a4 ?l4 ?c4 ?k4 ?a5 ?l5 ?c5 ?k5 ?a6 ?l6 ?c6 ?k6 ?a7 ?l7 ?c7 ?k7 ?a8 ?l8 ?c8 ?k8 ?a9 ?l9 ?c9 ?k9 ?a10 ?l10 ?c10 ?k10 ?a11 ?l11 ?c11 ?k11 ?a12 ?l12 ?c12 ?k12 ?a13 ?l13 ?c13 ?k13 ?a14 ?l14 ?c14 ?k14 ?a15 ?l15 ?c15 ?k15 ?a16 ?l16 ?c16 ?k16 ?a17 ?l17 ?c17 ?k17 ?a18 ?l18 ?c18 ?k18 ?a19 ?l19 ?c19 ?k19 ?a20 ?l20 ?c20 ?k20 ?a21 ?l21 ?c21 ?k21 ?a22 ?l22 ?c22 ?k22 ?a23 ?l23 ?c23 ?k23 ?a24 ?l24 ?c24 ?k24 ?a25 ?l25 ?c25 ?k25 ?a26 ?l26 ?c26 ?k26 ?a27 ?l27 ?c27 ?k27 ?a28 ?l28 ?c28 ?k28 ?a29 ?l29 ?c29 ?k29 ?a30 ?l30 ?c30 ?k30 ?a31 ?l31 ?c31 ?k31 ?a32 ?l32 ?c32 ?k32 ?a33 ?l33 ?c33 ?k33 ?a34 ?l34 ?c34 ?k34 ?a35 ?l35 ?c35 ?k35 ?a36 ?l36 ?c36 ?k36 ?a37 ?l37 ?c37 ?k37 ?a38 ?l38 ?c38 ?k38 ?a39 ?l39 ?c39 ?k39 ?a40 ?l40 ?c40 ?k40 ?a41 ?l41 ?c41 ?k41 ?a42 ?l42 ?c42 ?k42 ?a43 ?l43 ?c43 ?k43 ?a44 ?l44 ?c44 ?k44 ?a45 ?l45 ?c45 ?k45 ?a46 ?l46 ?c46 ?k46 ?a47 ?i47 ?l47 ?c47 ?k47 ?a48 ?i48 ?l48 ?c48 ?k48 ?a49 ?i49 ?l49 ?c49 ?k49 ?a50 ?i50 ?l50 ?c50 ?k50 ?a51 ?i51 ?l51 ?c51 ?k51 ?a52 ?i52 ?l52 ?c52 ?k52 ?a53 ?i53 ?l53 ?c53 ?k53 ?a54 ?i54 ?l54 ?c54 ?k54 ?a55 ?i55 ?l55 ?c55 ?k55 ?a56 ?i56 ?l56 ?c56 ?k56 ?a57 ?i57 ?l57 ?c57 ?k57 ?a58 ?i58 ?l58 ?c58 ?k58 ?h58 ?n58 ?a59 ?i59 ?l59 ?c59 ?k59 ?h59 ?n59 ?a60 ?i60 ?l60 ?c60 ?k60 ?h60 ?n60 ?a61 ?i61 ?l61 ?c61 ?k61 ?h61 ?n61 ?a62 ?i62 ?l62 ?c62 ?k62 ?h62 ?n62 ?a63 ?i63 ?l63 ?c63 ?k63 ?h63 ?n63 ?z_abs ?z_all ?z_bool ?z_enumerate ?z_int ?z_isinstance ?z_len ?z_list ?z_range ?z_repr ?z_sorted ?z_str ?z_tuple ?z_zip ?qS ?qD ?qL ?x_call ?x_whisper ?x_meet
      (case qaMoment => k_is); (case qpMoment => k_is); (case qhMoment => k_is); (case qoMoment => k_is); (case qsMoment => k_is); (case qmMoment => k_is); (case qkMoment => k_is); (case qnMoment_p => k_is); (case qnMoment_n => k_is); (case qnMoment_called => k_is); (case qnMoment_hands => k_is); (case qaBook => k_is); (case qpBook => k_is); (case qhBook => k_is); (case qoBook => k_is); (case qsBook => k_is); (case qmBook => k_is); (case qkBook => k_is); (case qnBook_made => k_is); (case qnBook_moments => k_is); (case qnBook_done => k_is); (case qnBook_trials => k_is); (case qnBook_amid => k_is); (case qcLETTERS => k_is); (case qcDEEDS => k_is); (case a0 => k_is); (case l0 => k_is); (case c0 => k_is); (case k0 => k_is); (case a1 => k_is); (case l1 => k_is); (case c1 => k_is); (case k1 => k_is); (case a2 => k_is); (case l2 => k_is); (case c2 => k_is); (case k2 => k_is); (case a3 => k_is); (case l3 => k_is); (case c3 => k_is); (case k3 => k_is); (case a4 => k_is); (case l4 => k_is); (case c4 => k_is); (case k4 => k_is); (case a5 => k_is); (case l5 => k_is); (case c5 => k_is); (case k5 => k_is); (case a6 => k_is); (case l6 => k_is); (case c6 => k_is); (case k6 => k_is); (case a7 => k_is); (case l7 => k_is); (case c7 => k_is); (case k7 => k_is); (case a8 => k_is); (case l8 => k_is); (case c8 => k_is); (case k8 => k_is); (case a9 => k_is); (case l9 => k_is); (case c9 => k_is); (case k9 => k_is); (case a10 => k_is); (case l10 => k_is); (case c10 => k_is); (case k10 => k_is); (case a11 => k_is); (case l11 => k_is); (case c11 => k_is); (case k11 => k_is); (case a12 => k_is); (case l12 => k_is); (case c12 => k_is); (case k12 => k_is); (case a13 => k_is); (case l13 => k_is); (case c13 => k_is); (case k13 => k_is); (case a14 => k_is); (case l14 => k_is); (case c14 => k_is); (case k14 => k_is); (case a15 => k_is); (case l15 => k_is); (case c15 => k_is); (case k15 => k_is); (case a16 => k_is); (case l16 => k_is); (case c16 => k_is); (case k16 => k_is); (case a17 => k_is); (case l17 => k_is); (case c17 => k_is); (case k17 => k_is); (case a18 => k_is); (case l18 => k_is); (case c18 => k_is); (case k18 => k_is); (case a19 => k_is); (case l19 => k_is); (case c19 => k_is); (case k19 => k_is); (case a20 => k_is); (case l20 => k_is); (case c20 => k_is); (case k20 => k_is); (case a21 => k_is); (case l21 => k_is); (case c21 => k_is); (case k21 => k_is); (case a22 => k_is); (case l22 => k_is); (case c22 => k_is); (case k22 => k_is); (case a23 => k_is); (case l23 => k_is); (case c23 => k_is); (case k23 => k_is); (case a24 => k_is); (case l24 => k_is); (case c24 => k_is); (case k24 => k_is); (case a25 => k_is); (case l25 => k_is); (case c25 => k_is); (case k25 => k_is); (case a26 => k_is); (case l26 => k_is); (case c26 => k_is); (case k26 => k_is); (case a27 => k_is); (case l27 => k_is); (case c27 => k_is); (case k27 => k_is); (case a28 => k_is); (case l28 => k_is); (case c28 => k_is); (case k28 => k_is); (case a29 => k_is); (case l29 => k_is); (case c29 => k_is); (case k29 => k_is); (case a30 => k_is); (case l30 => k_is); (case c30 => k_is); (case k30 => k_is); (case a31 => k_is); (case l31 => k_is); (case c31 => k_is); (case k31 => k_is); (case a32 => k_is); (case l32 => k_is); (case c32 => k_is); (case k32 => k_is); (case a33 => k_is); (case l33 => k_is); (case c33 => k_is); (case k33 => k_is); (case a34 => k_is); (case l34 => k_is); (case c34 => k_is); (case k34 => k_is); (case a35 => k_is); (case l35 => k_is); (case c35 => k_is); (case k35 => k_is); (case a36 => k_is); (case l36 => k_is); (case c36 => k_is); (case k36 => k_is); (case a37 => k_is); (case l37 => k_is); (case c37 => k_is); (case k37 => k_is); (case a38 => k_is); (case l38 => k_is); (case c38 => k_is); (case k38 => k_is); (case a39 => k_is); (case l39 => k_is); (case c39 => k_is); (case k39 => k_is); (case a40 => k_is); (case l40 => k_is); (case c40 => k_is); (case k40 => k_is); (case a41 => k_is); (case l41 => k_is); (case c41 => k_is); (case k41 => k_is); (case a42 => k_is); (case l42 => k_is); (case c42 => k_is); (case k42 => k_is); (case a43 => k_is); (case l43 => k_is); (case c43 => k_is); (case k43 => k_is); (case a44 => k_is); (case l44 => k_is); (case c44 => k_is); (case k44 => k_is); (case a45 => k_is); (case l45 => k_is); (case c45 => k_is); (case k45 => k_is); (case a46 => k_is); (case l46 => k_is); (case c46 => k_is); (case k46 => k_is); (case a47 => k_is); (case i47 => k_is); (case l47 => k_is); (case c47 => k_is); (case k47 => k_is); (case a48 => k_is); (case i48 => k_is); (case l48 => k_is); (case c48 => k_is); (case k48 => k_is); (case a49 => k_is); (case i49 => k_is); (case l49 => k_is); (case c49 => k_is); (case k49 => k_is); (case a50 => k_is); (case i50 => k_is); (case l50 => k_is); (case c50 => k_is); (case k50 => k_is); (case a51 => k_is); (case i51 => k_is); (case l51 => k_is); (case c51 => k_is); (case k51 => k_is); (case a52 => k_is); (case i52 => k_is); (case l52 => k_is); (case c52 => k_is); (case k52 => k_is); (case a53 => k_is); (case i53 => k_is); (case l53 => k_is); (case c53 => k_is); (case k53 => k_is); (case a54 => k_is); (case i54 => k_is); (case l54 => k_is); (case c54 => k_is); (case k54 => k_is); (case a55 => k_is); (case i55 => k_is); (case l55 => k_is); (case c55 => k_is); (case k55 => k_is); (case a56 => k_is); (case i56 => k_is); (case l56 => k_is); (case c56 => k_is); (case k56 => k_is); (case a57 => k_is); (case i57 => k_is); (case l57 => k_is); (case c57 => k_is); (case k57 => k_is); (case a58 => k_is); (case i58 => k_is); (case l58 => k_is); (case c58 => k_is); (case k58 => k_is); (case h58 => exact rfl); (case n58 => k_is); (case a59 => k_is); (case i59 => k_is); (case l59 => k_is); (case c59 => k_is); (case k59 => k_is); (case h59 => exact rfl); (case n59 => k_is); (case a60 => k_is); (case i60 => k_is); (case l60 => k_is); (case c60 => k_is); (case k60 => k_is); (case h60 => exact rfl); (case n60 => k_is); (case a61 => k_is); (case i61 => k_is); (case l61 => k_is); (case c61 => k_is); (case k61 => k_is); (case h61 => exact rfl); (case n61 => k_is); (case a62 => k_is); (case i62 => k_is); (case l62 => k_is); (case c62 => k_is); (case k62 => k_is); (case h62 => exact rfl); (case n62 => k_is); (case a63 => k_is); (case i63 => k_is); (case l63 => k_is); (case c63 => k_is); (case k63 => k_is); (case h63 => exact rfl); (case n63 => k_is); (case z_abs => k_is); (case z_all => k_is); (case z_bool => k_is); (case z_enumerate => k_is); (case z_int => k_is); (case z_isinstance => k_is); (case z_len => k_is); (case z_list => k_is); (case z_range => k_is); (case z_repr => k_is); (case z_sorted => k_is); (case z_str => k_is); (case z_tuple => k_is); (case z_zip => k_is); (case qS => k_is); (case qD => k_is); (case qL => exact ⟨⟨_, _, rfl, rfl⟩, ⟨_, _, rfl, rfl⟩, ⟨_, _, rfl, rfl⟩, ⟨_, _, rfl, rfl⟩, ⟨_, _, rfl, rfl⟩, ⟨_, _, rfl, rfl⟩, ⟨_, _, rfl, rfl⟩, trivial⟩); (case x_call => k_is); (case x_whisper => k_is); (case x_meet => k_is)
