import PyProof.Rows.All
import Wide.All
import OpenK.AllK
import Wide.FinOn
import HandS.Base
import HandS.Words
import HandS.More
import HandS.Head2
import KE.KNestM
import HandS.Call
import HandS.List
import HandS.Comp
import HandS.Ends
import HandS.Dict
import HandS.Iter
import HandS.Text
import HandS.WordsList
import HandS.WordsDict
import HandS.IsInst
import HandS.Zip
import HandS.Conv
import HandS.Walk
import HandS.Style
import HandS.TupAny
import HandS.TupMul
import HandS.EndBits
import HandS.Codes
import KE.GoesMore
import HandS.SortKw
import HandS.TupSets
import KE.KDictDisplayH
import KE.DatumOrd
import HandS.Wide
import PyProof.ListStr
import PyProof.StrLawsRepr
import HandS.Exc
import HandS.ExcOwn
import HandS.WordsExc
import HandS.ExcIs
import KE.GoesZip
import HandS.Strs
import KE.KDictPairs
import HandS.Lambda
import KE.DataMinKey
import HandS.EndTab
import KE.KNest
import HandS.Defaults
import HandS.Star
import HandS.CallLocal
import HandS.TupLen
import HandS.SlotsOwn
import PyProof.StrLawsIn
import HandS.Replace
import HandS.ReplaceLit
import HandS.Deep
import HandS.Rev
import PySem.Challenge.RW_opencalls_k70_rows_as_texts
set_option Elab.async false
set_option linter.all false
set_option maxRecDepth 100000
/-! the objects that the top leaves, as far as they are asked for; the top's run -/
namespace OCR
open PySem PySem.Spec PyProof.Rows L2
def topR (i : Nat) : Stmt := PySem.Challenge.pw_opencalls_k70_rows_as_texts.main.body.getD i (.Pass ⟨0, 0, 0, 0⟩)
def K0 (P : PySem.Params) : PySem.W.Frag :=
  (nat_lit 2, ⟨.none, none, (.dict (List.toArray ([])) 0), #[]⟩) ::
  (nat_lit 3, ⟨(.type "dict"), none, (.dict (List.toArray (⟨PySem.PyData.keyHash P (PySem.Str.ofString "__name__"), .str (PySem.Str.ofString "__name__") 165, (.str (PySem.Str.ofString "law_opencalls_k70_rows_as_texts") 296)⟩ :: ⟨PySem.PyData.keyHash P (PySem.Str.ofString "__doc__"), .str (PySem.Str.ofString "__doc__") 166, .none⟩ :: ⟨PySem.PyData.keyHash P (PySem.Str.ofString "__package__"), .str (PySem.Str.ofString "__package__") 167, .none⟩ :: ⟨PySem.PyData.keyHash P (PySem.Str.ofString "__loader__"), .str (PySem.Str.ofString "__loader__") 168, (.builtin "__main__.__loader__#opaque")⟩ :: ⟨PySem.PyData.keyHash P (PySem.Str.ofString "__spec__"), .str (PySem.Str.ofString "__spec__") 169, .none⟩ :: ⟨PySem.PyData.keyHash P (PySem.Str.ofString "__annotations__"), .str (PySem.Str.ofString "__annotations__") 170, (.ref 6)⟩ :: ⟨PySem.PyData.keyHash P (PySem.Str.ofString "__builtins__"), .str (PySem.Str.ofString "__builtins__") 171, (.ref 4)⟩ :: ⟨PySem.PyData.keyHash P (PySem.Str.ofString "__file__"), .str (PySem.Str.ofString "__file__") 173, (.str (PySem.Str.ofString "/claim/cut.py") 172)⟩ :: ⟨PySem.PyData.keyHash P (PySem.Str.ofString "__cached__"), .str (PySem.Str.ofString "__cached__") 174, .none⟩ :: ⟨PySem.PyData.keyHash P (PySem.Str.ofString "CallError"), .str (PySem.Str.ofString "CallError") 206, (.ref 24)⟩ :: ⟨PySem.PyData.keyHash P (PySem.Str.ofString "NoRow"), .str (PySem.Str.ofString "NoRow") 222, (.ref 37)⟩ :: ⟨PySem.PyData.keyHash P (PySem.Str.ofString "NoText"), .str (PySem.Str.ofString "NoText") 238, (.ref 49)⟩ :: ⟨PySem.PyData.keyHash P (PySem.Str.ofString "is_number"), .str (PySem.Str.ofString "is_number") 247, (.ref 58)⟩ :: ⟨PySem.PyData.keyHash P (PySem.Str.ofString "is_rest"), .str (PySem.Str.ofString "is_rest") 255, (.ref 65)⟩ :: ⟨PySem.PyData.keyHash P (PySem.Str.ofString "is_row"), .str (PySem.Str.ofString "is_row") 263, (.ref 70)⟩ :: ⟨PySem.PyData.keyHash P (PySem.Str.ofString "FIGURES"), .str (PySem.Str.ofString "FIGURES") 267, (.str (PySem.Str.ofString "0123456789") 266)⟩ :: ⟨PySem.PyData.keyHash P (PySem.Str.ofString "is_numeral"), .str (PySem.Str.ofString "is_numeral") 273, (.ref 75)⟩ :: ⟨PySem.PyData.keyHash P (PySem.Str.ofString "read_numbers"), .str (PySem.Str.ofString "read_numbers") 279, (.ref 80)⟩ :: ⟨PySem.PyData.keyHash P (PySem.Str.ofString "row_text"), .str (PySem.Str.ofString "row_text") 285, (.ref 85)⟩ :: ⟨PySem.PyData.keyHash P (PySem.Str.ofString "read_row"), .str (PySem.Str.ofString "read_row") 295, (.ref 92)⟩ :: ⟨PySem.PyData.keyHash P (PySem.Str.ofString "_law_deck"), .str (PySem.Str.ofString "_law_deck") 303, (.ref 97)⟩ :: ⟨PySem.PyData.keyHash P (PySem.Str.ofString "_law_draw"), .str (PySem.Str.ofString "_law_draw") 313, (.ref 104)⟩ :: ⟨PySem.PyData.keyHash P (PySem.Str.ofString "_law_row"), .str (PySem.Str.ofString "_law_row") 319, (.ref 109)⟩ :: ⟨PySem.PyData.keyHash P (PySem.Str.ofString "_law_whole"), .str (PySem.Str.ofString "_law_whole") 326, (.ref 116)⟩ :: ⟨PySem.PyData.keyHash P (PySem.Str.ofString "_law_same"), .str (PySem.Str.ofString "_law_same") 332, (.ref 121)⟩ :: ⟨PySem.PyData.keyHash P (PySem.Str.ofString "_law_odd"), .str (PySem.Str.ofString "_law_odd") 340, (.ref 128)⟩ :: ⟨PySem.PyData.keyHash P (PySem.Str.ofString "_law_is_row"), .str (PySem.Str.ofString "_law_is_row") 346, (.ref 133)⟩ :: ⟨PySem.PyData.keyHash P (PySem.Str.ofString "_law_row_text"), .str (PySem.Str.ofString "_law_row_text") 352, (.ref 138)⟩ :: ⟨PySem.PyData.keyHash P (PySem.Str.ofString "_law_read"), .str (PySem.Str.ofString "_law_read") 362, (.ref 145)⟩ :: ⟨PySem.PyData.keyHash P (PySem.Str.ofString "_law_due"), .str (PySem.Str.ofString "_law_due") 368, (.ref 150)⟩ :: ⟨PySem.PyData.keyHash P (PySem.Str.ofString "_law_bent_text"), .str (PySem.Str.ofString "_law_bent_text") 380, (.ref 157)⟩ :: ⟨PySem.PyData.keyHash P (PySem.Str.ofString "law"), .str (PySem.Str.ofString "law") 386, (.ref 162)⟩ :: [])) 32), #[]⟩) ::
  (nat_lit 23, ⟨(.type "dict"), none, (.dict (List.toArray (⟨PySem.PyData.keyHash P (PySem.Str.ofString "__module__"), .str (PySem.Str.ofString "__module__") 196, (.str (PySem.Str.ofString "opencalls.errors") 187)⟩ :: ⟨PySem.PyData.keyHash P (PySem.Str.ofString "__firstlineno__"), .str (PySem.Str.ofString "__firstlineno__") 200, (.int (2) 199)⟩ :: ⟨PySem.PyData.keyHash P (PySem.Str.ofString "__static_attributes__"), .str (PySem.Str.ofString "__static_attributes__") 201, (.ref 22)⟩ :: ⟨PySem.PyData.keyHash P (PySem.Str.ofString "__weakref__"), .str (PySem.Str.ofString "__weakref__") 203, (.ref 25)⟩ :: ⟨PySem.PyData.keyHash P (PySem.Str.ofString "__doc__"), .str (PySem.Str.ofString "__doc__") 204, .none⟩ :: [])) 3), #[]⟩) ::
  (nat_lit 24, ⟨(.type "type"), none, (.cls { name := (PySem.Str.ofString "CallError"), bases := [(.type "ValueError")], mro := [(.ref 24), (.type "ValueError"), (.type "Exception"), (.type "BaseException"), (.type "object")], ns := 23, qualname := (PySem.Str.ofString "CallError"), hasDict := true, slotNames := [], subclasses := [(.ref 37), (.ref 49)], abstract := false, collection := none, hasDel := false }), #[(some (.ref 15)), none, (some (.str (PySem.Str.ofString "CallError") 189)), (some (.str (PySem.Str.ofString "CallError") 197)), (some (.builtin "ValueError.__new__")), (some (.bool true))]⟩) ::
  (nat_lit 25, ⟨(.type "getset_descriptor"), none, (.fields #[(.str (PySem.Str.ofString "__weakref__") 202), (.ref 24), (.builtin "ExceptionGroup.__weakref__"), .none]), #[]⟩) ::
  (nat_lit 36, ⟨(.type "dict"), none, (.dict (List.toArray (⟨PySem.PyData.keyHash P (PySem.Str.ofString "__module__"), .str (PySem.Str.ofString "__module__") 214, (.str (PySem.Str.ofString "opencalls.errors") 187)⟩ :: ⟨PySem.PyData.keyHash P (PySem.Str.ofString "__firstlineno__"), .str (PySem.Str.ofString "__firstlineno__") 218, (.int (4) 217)⟩ :: ⟨PySem.PyData.keyHash P (PySem.Str.ofString "__static_attributes__"), .str (PySem.Str.ofString "__static_attributes__") 219, (.ref 35)⟩ :: ⟨PySem.PyData.keyHash P (PySem.Str.ofString "__doc__"), .str (PySem.Str.ofString "__doc__") 220, .none⟩ :: [])) 2), #[]⟩) ::
  (nat_lit 37, ⟨(.type "type"), none, (.cls { name := (PySem.Str.ofString "NoRow"), bases := [(.ref 24)], mro := [(.ref 37), (.ref 24), (.type "ValueError"), (.type "Exception"), (.type "BaseException"), (.type "object")], ns := 36, qualname := (PySem.Str.ofString "NoRow"), hasDict := true, slotNames := [], subclasses := [], abstract := false, collection := none, hasDel := false }), #[(some (.ref 28)), none, (some (.str (PySem.Str.ofString "NoRow") 207)), (some (.str (PySem.Str.ofString "NoRow") 215)), (some (.builtin "ValueError.__new__")), (some (.bool true))]⟩) ::
  (nat_lit 48, ⟨(.type "dict"), none, (.dict (List.toArray (⟨PySem.PyData.keyHash P (PySem.Str.ofString "__module__"), .str (PySem.Str.ofString "__module__") 230, (.str (PySem.Str.ofString "opencalls.errors") 187)⟩ :: ⟨PySem.PyData.keyHash P (PySem.Str.ofString "__firstlineno__"), .str (PySem.Str.ofString "__firstlineno__") 234, (.int (6) 233)⟩ :: ⟨PySem.PyData.keyHash P (PySem.Str.ofString "__static_attributes__"), .str (PySem.Str.ofString "__static_attributes__") 235, (.ref 47)⟩ :: ⟨PySem.PyData.keyHash P (PySem.Str.ofString "__doc__"), .str (PySem.Str.ofString "__doc__") 236, .none⟩ :: [])) 2), #[]⟩) ::
  (nat_lit 49, ⟨(.type "type"), none, (.cls { name := (PySem.Str.ofString "NoText"), bases := [(.ref 24)], mro := [(.ref 49), (.ref 24), (.type "ValueError"), (.type "Exception"), (.type "BaseException"), (.type "object")], ns := 48, qualname := (PySem.Str.ofString "NoText"), hasDict := true, slotNames := [], subclasses := [], abstract := false, collection := none, hasDel := false }), #[(some (.ref 40)), none, (some (.str (PySem.Str.ofString "NoText") 223)), (some (.str (PySem.Str.ofString "NoText") 231)), (some (.builtin "ValueError.__new__")), (some (.bool true))]⟩) ::
  (nat_lit 57, ⟨(.type "code"), none, (.fields #[(.str (PySem.Str.ofString "is_number") 241), (.str (PySem.Str.ofString "is_number") 242), (.str (PySem.Str.ofString "/claim/cut.py") 243), (.int (9) 0), (.int (1) 0), (.int (0) 0), (.int (0) 0), (.int (3) 0), (.ref 52), (.bool true), (.int (181) 0), (.ref 53), .none, (.ref 54), (.ref 55), (.ref 56), (.int (245) 0), (.int (9) 0), (.str (PySem.Str.ofString "/claim/cut.py") 246)]), #[]⟩) ::
  (nat_lit 58, ⟨(.type "function"), none, (.func (PySem.W.fnOf (PySem.Str.ofString "is_number") (PySem.Str.ofString "is_number") (defArgs (topR 5)) (defBody (topR 5)) (defScope (topR 5)) .none .none .none (.str (PySem.Str.ofString "opencalls.rests") 239) none (.ref 57) .none)), #[]⟩) ::
  (nat_lit 64, ⟨(.type "code"), none, (.fields #[(.str (PySem.Str.ofString "is_rest") 248), (.str (PySem.Str.ofString "is_rest") 249), (.str (PySem.Str.ofString "/claim/cut.py") 250), (.int (11) 0), (.int (2) 0), (.int (0) 0), (.int (0) 0), (.int (3) 0), (.ref 59), (.bool true), (.int (181) 0), (.ref 60), .none, (.ref 61), (.ref 62), (.ref 63), (.int (253) 0), (.int (11) 0), (.str (PySem.Str.ofString "/claim/cut.py") 254)]), #[]⟩) ::
  (nat_lit 65, ⟨(.type "function"), none, (.func (PySem.W.fnOf (PySem.Str.ofString "is_rest") (PySem.Str.ofString "is_rest") (defArgs (topR 6)) (defBody (topR 6)) (defScope (topR 6)) .none .none .none (.str (PySem.Str.ofString "opencalls.rests") 239) none (.ref 64) .none)), #[]⟩) ::
  (nat_lit 69, ⟨(.type "code"), none, (.fields #[(.str (PySem.Str.ofString "is_row") 258), (.str (PySem.Str.ofString "is_row") 259), (.str (PySem.Str.ofString "/claim/cut.py") 260), (.int (14) 0), (.int (3) 0), (.int (0) 0), (.int (0) 0), (.int (3) 0), (.ref 66), (.bool true), (.int (181) 0), (.ref 67), .none, .none, .none, (.ref 68), (.int (261) 0), (.int (14) 0), (.str (PySem.Str.ofString "/claim/cut.py") 262)]), #[]⟩) ::
  (nat_lit 70, ⟨(.type "function"), none, (.func (PySem.W.fnOf (PySem.Str.ofString "is_row") (PySem.Str.ofString "is_row") (defArgs (topR 8)) (defBody (topR 8)) (defScope (topR 8)) .none .none .none (.str (PySem.Str.ofString "opencalls.rows") 256) none (.ref 69) .none)), #[]⟩) ::
  (nat_lit 74, ⟨(.type "code"), none, (.fields #[(.str (PySem.Str.ofString "is_numeral") 268), (.str (PySem.Str.ofString "is_numeral") 269), (.str (PySem.Str.ofString "/claim/cut.py") 270), (.int (18) 0), (.int (1) 0), (.int (0) 0), (.int (0) 0), (.int (3) 0), (.ref 71), (.bool true), (.int (181) 0), (.ref 72), .none, .none, .none, (.ref 73), (.int (271) 0), (.int (18) 0), (.str (PySem.Str.ofString "/claim/cut.py") 272)]), #[]⟩) ::
  (nat_lit 75, ⟨(.type "function"), none, (.func (PySem.W.fnOf (PySem.Str.ofString "is_numeral") (PySem.Str.ofString "is_numeral") (defArgs (topR 11)) (defBody (topR 11)) (defScope (topR 11)) .none .none .none (.str (PySem.Str.ofString "opencalls.texts") 264) none (.ref 74) .none)), #[]⟩) ::
  (nat_lit 79, ⟨(.type "code"), none, (.fields #[(.str (PySem.Str.ofString "read_numbers") 274), (.str (PySem.Str.ofString "read_numbers") 275), (.str (PySem.Str.ofString "/claim/cut.py") 276), (.int (22) 0), (.int (1) 0), (.int (0) 0), (.int (0) 0), (.int (3) 0), (.ref 76), (.bool true), (.int (181) 0), (.ref 77), .none, .none, .none, (.ref 78), (.int (277) 0), (.int (22) 0), (.str (PySem.Str.ofString "/claim/cut.py") 278)]), #[]⟩) ::
  (nat_lit 80, ⟨(.type "function"), none, (.func (PySem.W.fnOf (PySem.Str.ofString "read_numbers") (PySem.Str.ofString "read_numbers") (defArgs (topR 12)) (defBody (topR 12)) (defScope (topR 12)) .none .none .none (.str (PySem.Str.ofString "opencalls.texts") 264) none (.ref 79) .none)), #[]⟩) ::
  (nat_lit 84, ⟨(.type "code"), none, (.fields #[(.str (PySem.Str.ofString "row_text") 280), (.str (PySem.Str.ofString "row_text") 281), (.str (PySem.Str.ofString "/claim/cut.py") 282), (.int (26) 0), (.int (1) 0), (.int (0) 0), (.int (0) 0), (.int (3) 0), (.ref 81), (.bool true), (.int (181) 0), (.ref 82), .none, .none, .none, (.ref 83), (.int (283) 0), (.int (26) 0), (.str (PySem.Str.ofString "/claim/cut.py") 284)]), #[]⟩) ::
  (nat_lit 85, ⟨(.type "function"), none, (.func (PySem.W.fnOf (PySem.Str.ofString "row_text") (PySem.Str.ofString "row_text") (defArgs (topR 13)) (defBody (topR 13)) (defScope (topR 13)) .none .none .none (.str (PySem.Str.ofString "opencalls.texts") 264) none (.ref 84) .none)), #[]⟩) ::
  (nat_lit 91, ⟨(.type "code"), none, (.fields #[(.str (PySem.Str.ofString "read_row") 286), (.str (PySem.Str.ofString "read_row") 287), (.str (PySem.Str.ofString "/claim/cut.py") 288), (.int (28) 0), (.int (3) 0), (.int (0) 0), (.int (0) 0), (.int (3) 0), (.ref 86), (.bool true), (.int (181) 0), (.ref 87), .none, (.ref 88), (.ref 89), (.ref 90), (.int (293) 0), (.int (28) 0), (.str (PySem.Str.ofString "/claim/cut.py") 294)]), #[]⟩) ::
  (nat_lit 92, ⟨(.type "function"), none, (.func (PySem.W.fnOf (PySem.Str.ofString "read_row") (PySem.Str.ofString "read_row") (defArgs (topR 14)) (defBody (topR 14)) (defScope (topR 14)) .none .none .none (.str (PySem.Str.ofString "opencalls.texts") 264) none (.ref 91) .none)), #[]⟩) ::
  (nat_lit 96, ⟨(.type "code"), none, (.fields #[(.str (PySem.Str.ofString "_law_deck") 298), (.str (PySem.Str.ofString "_law_deck") 299), (.str (PySem.Str.ofString "/claim/cut.py") 300), (.int (34) 0), (.int (1) 0), (.int (0) 0), (.int (0) 0), (.int (3) 0), (.ref 93), (.bool true), (.int (181) 0), (.ref 94), .none, .none, .none, (.ref 95), (.int (301) 0), (.int (34) 0), (.str (PySem.Str.ofString "/claim/cut.py") 302)]), #[]⟩) ::
  (nat_lit 97, ⟨(.type "function"), none, (.func (PySem.W.fnOf (PySem.Str.ofString "_law_deck") (PySem.Str.ofString "_law_deck") (defArgs (topR 16)) (defBody (topR 16)) (defScope (topR 16)) .none .none .none (.str (PySem.Str.ofString "law_opencalls_k70_rows_as_texts") 296) none (.ref 96) .none)), #[]⟩) ::
  (nat_lit 103, ⟨(.type "code"), none, (.fields #[(.str (PySem.Str.ofString "_law_draw") 304), (.str (PySem.Str.ofString "_law_draw") 305), (.str (PySem.Str.ofString "/claim/cut.py") 306), (.int (36) 0), (.int (2) 0), (.int (0) 0), (.int (0) 0), (.int (3) 0), (.ref 98), (.bool true), (.int (181) 0), (.ref 99), .none, (.ref 100), (.ref 101), (.ref 102), (.int (311) 0), (.int (36) 0), (.str (PySem.Str.ofString "/claim/cut.py") 312)]), #[]⟩) ::
  (nat_lit 104, ⟨(.type "function"), none, (.func (PySem.W.fnOf (PySem.Str.ofString "_law_draw") (PySem.Str.ofString "_law_draw") (defArgs (topR 17)) (defBody (topR 17)) (defScope (topR 17)) .none .none .none (.str (PySem.Str.ofString "law_opencalls_k70_rows_as_texts") 296) none (.ref 103) .none)), #[]⟩) ::
  (nat_lit 108, ⟨(.type "code"), none, (.fields #[(.str (PySem.Str.ofString "_law_row") 314), (.str (PySem.Str.ofString "_law_row") 315), (.str (PySem.Str.ofString "/claim/cut.py") 316), (.int (47) 0), (.int (3) 0), (.int (0) 0), (.int (0) 0), (.int (3) 0), (.ref 105), (.bool true), (.int (181) 0), (.ref 106), .none, .none, .none, (.ref 107), (.int (317) 0), (.int (47) 0), (.str (PySem.Str.ofString "/claim/cut.py") 318)]), #[]⟩) ::
  (nat_lit 109, ⟨(.type "function"), none, (.func (PySem.W.fnOf (PySem.Str.ofString "_law_row") (PySem.Str.ofString "_law_row") (defArgs (topR 18)) (defBody (topR 18)) (defScope (topR 18)) .none .none .none (.str (PySem.Str.ofString "law_opencalls_k70_rows_as_texts") 296) none (.ref 108) .none)), #[]⟩) ::
  (nat_lit 115, ⟨(.type "code"), none, (.fields #[(.str (PySem.Str.ofString "_law_whole") 320), (.str (PySem.Str.ofString "_law_whole") 321), (.str (PySem.Str.ofString "/claim/cut.py") 322), (.int (57) 0), (.int (1) 0), (.int (0) 0), (.int (0) 0), (.int (3) 0), (.ref 110), (.bool true), (.int (181) 0), (.ref 111), .none, (.ref 112), (.ref 113), (.ref 114), (.int (324) 0), (.int (57) 0), (.str (PySem.Str.ofString "/claim/cut.py") 325)]), #[]⟩) ::
  (nat_lit 116, ⟨(.type "function"), none, (.func (PySem.W.fnOf (PySem.Str.ofString "_law_whole") (PySem.Str.ofString "_law_whole") (defArgs (topR 19)) (defBody (topR 19)) (defScope (topR 19)) .none .none .none (.str (PySem.Str.ofString "law_opencalls_k70_rows_as_texts") 296) none (.ref 115) .none)), #[]⟩) ::
  (nat_lit 120, ⟨(.type "code"), none, (.fields #[(.str (PySem.Str.ofString "_law_same") 327), (.str (PySem.Str.ofString "_law_same") 328), (.str (PySem.Str.ofString "/claim/cut.py") 329), (.int (59) 0), (.int (2) 0), (.int (0) 0), (.int (0) 0), (.int (3) 0), (.ref 117), (.bool true), (.int (181) 0), (.ref 118), .none, .none, .none, (.ref 119), (.int (330) 0), (.int (59) 0), (.str (PySem.Str.ofString "/claim/cut.py") 331)]), #[]⟩) ::
  (nat_lit 121, ⟨(.type "function"), none, (.func (PySem.W.fnOf (PySem.Str.ofString "_law_same") (PySem.Str.ofString "_law_same") (defArgs (topR 20)) (defBody (topR 20)) (defScope (topR 20)) .none .none .none (.str (PySem.Str.ofString "law_opencalls_k70_rows_as_texts") 296) none (.ref 120) .none)), #[]⟩) ::
  (nat_lit 127, ⟨(.type "code"), none, (.fields #[(.str (PySem.Str.ofString "_law_odd") 333), (.str (PySem.Str.ofString "_law_odd") 334), (.str (PySem.Str.ofString "/claim/cut.py") 335), (.int (71) 0), (.int (1) 0), (.int (0) 0), (.int (0) 0), (.int (3) 0), (.ref 122), (.bool true), (.int (181) 0), (.ref 123), .none, (.ref 124), (.ref 125), (.ref 126), (.int (338) 0), (.int (71) 0), (.str (PySem.Str.ofString "/claim/cut.py") 339)]), #[]⟩) ::
  (nat_lit 128, ⟨(.type "function"), none, (.func (PySem.W.fnOf (PySem.Str.ofString "_law_odd") (PySem.Str.ofString "_law_odd") (defArgs (topR 21)) (defBody (topR 21)) (defScope (topR 21)) .none .none .none (.str (PySem.Str.ofString "law_opencalls_k70_rows_as_texts") 296) none (.ref 127) .none)), #[]⟩) ::
  (nat_lit 132, ⟨(.type "code"), none, (.fields #[(.str (PySem.Str.ofString "_law_is_row") 341), (.str (PySem.Str.ofString "_law_is_row") 342), (.str (PySem.Str.ofString "/claim/cut.py") 343), (.int (74) 0), (.int (3) 0), (.int (0) 0), (.int (0) 0), (.int (3) 0), (.ref 129), (.bool true), (.int (181) 0), (.ref 130), .none, .none, .none, (.ref 131), (.int (344) 0), (.int (74) 0), (.str (PySem.Str.ofString "/claim/cut.py") 345)]), #[]⟩) ::
  (nat_lit 133, ⟨(.type "function"), none, (.func (PySem.W.fnOf (PySem.Str.ofString "_law_is_row") (PySem.Str.ofString "_law_is_row") (defArgs (topR 22)) (defBody (topR 22)) (defScope (topR 22)) .none .none .none (.str (PySem.Str.ofString "law_opencalls_k70_rows_as_texts") 296) none (.ref 132) .none)), #[]⟩) ::
  (nat_lit 137, ⟨(.type "code"), none, (.fields #[(.str (PySem.Str.ofString "_law_row_text") 347), (.str (PySem.Str.ofString "_law_row_text") 348), (.str (PySem.Str.ofString "/claim/cut.py") 349), (.int (78) 0), (.int (1) 0), (.int (0) 0), (.int (0) 0), (.int (3) 0), (.ref 134), (.bool true), (.int (181) 0), (.ref 135), .none, .none, .none, (.ref 136), (.int (350) 0), (.int (78) 0), (.str (PySem.Str.ofString "/claim/cut.py") 351)]), #[]⟩) ::
  (nat_lit 138, ⟨(.type "function"), none, (.func (PySem.W.fnOf (PySem.Str.ofString "_law_row_text") (PySem.Str.ofString "_law_row_text") (defArgs (topR 23)) (defBody (topR 23)) (defScope (topR 23)) .none .none .none (.str (PySem.Str.ofString "law_opencalls_k70_rows_as_texts") 296) none (.ref 137) .none)), #[]⟩) ::
  (nat_lit 144, ⟨(.type "code"), none, (.fields #[(.str (PySem.Str.ofString "_law_read") 353), (.str (PySem.Str.ofString "_law_read") 354), (.str (PySem.Str.ofString "/claim/cut.py") 355), (.int (80) 0), (.int (3) 0), (.int (0) 0), (.int (0) 0), (.int (3) 0), (.ref 139), (.bool true), (.int (181) 0), (.ref 140), .none, (.ref 141), (.ref 142), (.ref 143), (.int (360) 0), (.int (80) 0), (.str (PySem.Str.ofString "/claim/cut.py") 361)]), #[]⟩) ::
  (nat_lit 145, ⟨(.type "function"), none, (.func (PySem.W.fnOf (PySem.Str.ofString "_law_read") (PySem.Str.ofString "_law_read") (defArgs (topR 24)) (defBody (topR 24)) (defScope (topR 24)) .none .none .none (.str (PySem.Str.ofString "law_opencalls_k70_rows_as_texts") 296) none (.ref 144) .none)), #[]⟩) ::
  (nat_lit 149, ⟨(.type "code"), none, (.fields #[(.str (PySem.Str.ofString "_law_due") 363), (.str (PySem.Str.ofString "_law_due") 364), (.str (PySem.Str.ofString "/claim/cut.py") 365), (.int (85) 0), (.int (3) 0), (.int (0) 0), (.int (0) 0), (.int (3) 0), (.ref 146), (.bool true), (.int (181) 0), (.ref 147), .none, .none, .none, (.ref 148), (.int (366) 0), (.int (85) 0), (.str (PySem.Str.ofString "/claim/cut.py") 367)]), #[]⟩) ::
  (nat_lit 150, ⟨(.type "function"), none, (.func (PySem.W.fnOf (PySem.Str.ofString "_law_due") (PySem.Str.ofString "_law_due") (defArgs (topR 25)) (defBody (topR 25)) (defScope (topR 25)) .none .none .none (.str (PySem.Str.ofString "law_opencalls_k70_rows_as_texts") 296) none (.ref 149) .none)), #[]⟩) ::
  (nat_lit 156, ⟨(.type "code"), none, (.fields #[(.str (PySem.Str.ofString "_law_bent_text") 369), (.str (PySem.Str.ofString "_law_bent_text") 370), (.str (PySem.Str.ofString "/claim/cut.py") 371), (.int (96) 0), (.int (2) 0), (.int (0) 0), (.int (0) 0), (.int (3) 0), (.ref 151), (.bool true), (.int (181) 0), (.ref 152), .none, (.ref 153), (.ref 154), (.ref 155), (.int (378) 0), (.int (96) 0), (.str (PySem.Str.ofString "/claim/cut.py") 379)]), #[]⟩) ::
  (nat_lit 157, ⟨(.type "function"), none, (.func (PySem.W.fnOf (PySem.Str.ofString "_law_bent_text") (PySem.Str.ofString "_law_bent_text") (defArgs (topR 26)) (defBody (topR 26)) (defScope (topR 26)) .none .none .none (.str (PySem.Str.ofString "law_opencalls_k70_rows_as_texts") 296) none (.ref 156) .none)), #[]⟩) ::
  (nat_lit 161, ⟨(.type "code"), none, (.fields #[(.str (PySem.Str.ofString "law") 381), (.str (PySem.Str.ofString "law") 382), (.str (PySem.Str.ofString "/claim/cut.py") 383), (.int (101) 0), (.int (1) 0), (.int (0) 0), (.int (0) 0), (.int (3) 0), (.ref 158), (.bool true), (.int (181) 0), (.ref 159), .none, .none, .none, (.ref 160), (.int (384) 0), (.int (101) 0), (.str (PySem.Str.ofString "/claim/cut.py") 385)]), #[]⟩) ::
  (nat_lit 162, ⟨(.type "function"), none, (.func (PySem.W.fnOf (PySem.Str.ofString "law") (PySem.Str.ofString "law") (defArgs (topR 27)) (defBody (topR 27)) (defScope (topR 27)) .none .none .none (.str (PySem.Str.ofString "law_opencalls_k70_rows_as_texts") 296) none (.ref 161) .none)), #[]⟩) ::
  []
def as0 : List Addr := 2 :: 3 :: 23 :: 24 :: 25 :: 36 :: 37 :: 48 :: 49 :: 57 :: 58 :: 64 :: 65 :: 69 :: 70 :: 74 :: 75 :: 79 :: 80 :: 84 :: 85 :: 91 :: 92 :: 96 :: 97 :: 103 :: 104 :: 108 :: 109 :: 115 :: 116 :: 120 :: 121 :: 127 :: 128 :: 132 :: 133 :: 137 :: 138 :: 144 :: 145 :: 149 :: 150 :: 156 :: 157 :: 161 :: 162 :: []
theorem as_ok (P : PySem.Params) : as0 = (K0 P).map (·.1) := by kernel_rfl
def names : List PySem.Str := (["CallError", "NoRow", "NoText", "is_number", "is_rest", "is_row", "FIGURES", "is_numeral", "read_numbers", "row_text", "read_row", "_law_deck"] : List PySem.Str) ++ (["_law_draw", "_law_row", "_law_whole", "_law_same", "_law_odd", "_law_is_row", "_law_row_text", "_law_read", "_law_due", "_law_bent_text"] : List PySem.Str)
abbrev R : PySem.W.OpenRow := PySem.W.OpenLaw.row PySem.Challenge.rw_opencalls_k70_rows_as_texts
abbrev hk : PySem.W.Hook := PySem.W.kHook K0 as0 as_ok
def ob (s : PySem.W.SharedT) : List (Option Obj) := as0.map (HandSHeadRun.getT s)
theorem ob_eq (s : PySem.W.SharedT) : ob s = hk.obs s.abs := by
  have e : HandSHeadRun.getT s = s.abs.heap.get? := funext (HandSHeadRun.getT_eq s)
  unfold ob
  rw [e]
  rfl
def RE (w : World) : Prop := HandSHeadRun.RunEq R (PySem.W.view R.prog [27]) hk ob 20000 names w
set_option maxHeartbeats 0 in
theorem run_f (w : World) : RE (w.withFollow "special-get-raises" false) := by
  intro os
  kernel_rfl
set_option maxHeartbeats 0 in
theorem run_t (w : World) : RE (w.withFollow "special-get-raises" true) := by
  intro os
  kernel_rfl
theorem run (w : World) : RE w := PySem.W.byRow2 "special-get-raises" run_f run_t w
end OCR
set_option Elab.async false
set_option linter.all false
set_option maxRecDepth 100000
namespace OC
open PySem PySem.Spec PyProof.Rows L2
/-! ### defs and their promises, by name -/
structure Df (K : PySem.W.Frag) (mg : Str → Option Value) (x : Str) (st : Stmt) (ps : List Str) : Prop where
  ex : ∃ (f : Addr) (fd : FuncData), Fun K x x st f fd ∧ Binds K fd ps [] ∧ mg x = some (.ref f)
structure Ok (P : Program) (w : World) (K : PySem.W.Frag) (mg : Str → Option Value) (base : Heap) (k : Nat) (x : Str) (ps : List Str) (sp : Sp) : Prop where
  ex : ∃ (f : Addr) (fd : FuncData), FnOk P w K mg base CX0 k f fd ps sp ∧ mg x = some (.ref f) ∧ PySem.W.keepIn K (.ref f) = true ∧ Binds K fd ps []
section
variable {P : Program} {w : World} {K : PySem.W.Frag} {mg : Str → Option Value} {base : Heap}
theorem Df.ok {x : Str} {st : Stmt} {N ps : List Str} {k : Nat} {sp : Sp} (D : Df K mg x st ps) (S : FnScope N ps (defScope st)) (len : ∀ vs H Q E, sp vs H Q E → vs.length = ps.length)
    (hbody : ∀ (f : Addr) (cdv : Value) (A : Around) (outer : List Env) (s : Shared) (H : Hp) (vs : List V) (Q : VK) (E : XK), Room k (A.deeper (envOfC x (defScope st) s.heap.objs.size f cdv)) → sp vs H Q E →
      ∃ t, PSs (cxOf CX0 P w K mg base N x (defScope st) f cdv A outer s H E).nox (defBody st) t ∧ t { nx := fun _ H' => Q .non H', rt := Q } (start N vs) H) : Ok P w K mg base (k + 1) x ps sp := by
  obtain ⟨f, fd, F, b, g⟩ := D.ex
  exact ⟨f, fd, F.ok S len (hbody f), g, F.kp, b⟩
theorem Ok.mono {x : Str} {ps : List Str} {j k : Nat} {sp : Sp} (O : Ok P w K mg base j x ps sp) (h : j ≤ k) : Ok P w K mg base k x ps sp := by
  obtain ⟨f, fd, F, r⟩ := O.ex
  exact ⟨f, fd, F.mono h, r⟩
theorem Ok.imp {x : Str} {ps : List Str} {k : Nat} {sp sp' : Sp} (O : Ok P w K mg base k x ps sp) (h : ∀ vs H Q E, sp' vs H Q E → sp vs H Q E) : Ok P w K mg base k x ps sp' := by
  obtain ⟨f, fd, F, r⟩ := O.ex
  exact ⟨f, fd, F.imp h, r⟩
end
section
variable {X : Cx} {x : Str} {ps : List Str} {k : Nat} {sp : Sp}
theorem pe_callO {e : Expr} {es : List Expr} {t : TA} {p pos : Pos} (O : Ok X.prog X.w X.K X.mg X.base k x ps sp) (hr : Room k X.A) (hg : Gl X x) (ha : PA X (e :: es) t) (hdb : (x == ("__debug__" : Str)) = false := by decide)
    (he : starEach (e :: es) X.env = (false, eval e X.env) :: starEach es X.env := by rfl) (hpl : (backTo pos (starEach es X.env)).any (·.1) = false := by rfl) :
    PE X (.Call (.Name x p) (e :: es) [] pos) (tCall sp [] E0 t) := by
  obtain ⟨f, fd, F, g, kp, b⟩ := O.ex
  exact pe_call F hr hg g kp b .nil pass0 ha hdb he hpl
end
/-! ### from the head's facts -/
theorem df_of {K : PySem.W.Frag} {h : Heap} {mg : Str → Option Value} {x : Str} {st : Stmt} {ps : List Str} {f : Addr} {oc : Value} {od an : Option Addr} {osl : Array (Option Value)} {kV doc pm cdv ct : Value} (X : K.In h) (G : h.Ns mainGlobals mg)
    (a : PySem.W.nsIn K mainGlobals x = some (some (.ref f)))
    (l : K.lookup f = some ⟨oc, od, .func (PySem.W.fnOf x x (defArgs st) (defBody st) (defScope st) .none kV doc pm an cdv ct), osl⟩)
    (c : PySem.W.codeIn K cdv x = true) (k : PySem.W.keepIn K (.ref f) = true)
    (hb : ∀ (kV doc pm : Value) (an : Option Addr) (cdv ct : Value) (us : List Value), us.length = ps.length → bindArgs (PySem.W.fnOf x x (defArgs st) (defBody st) (defScope st) .none kV doc pm an cdv ct) ⟨us, []⟩ = pure (ps.zip us)) :
    Df K mg x st ps := by
  have F := fun_mk (st := st) l c k
  exact ⟨f, _, F, F.binds hb, PySem.W.mg_of X G a⟩
end OC
set_option Elab.async false
set_option linter.all false
set_option maxRecDepth 100000
namespace OC
open PySem PySem.Spec PyProof.Rows L2
/-! ### kinds of values -/
inductive Kd where
  | non | bl | int | str | lst | tup | dct
  deriving DecidableEq
def Kd.name : Kd → String
  | .non => "NoneType" | .bl => "bool" | .int => "int" | .str => "str" | .lst => "list" | .tup => "tuple" | .dct => "dict"
def KdOf (K : PySem.W.Frag) (H : Hp) (v : V) (k : Kd) : Prop := TyX K H v (.type k.name)
section
variable {K : PySem.W.Frag} {H : Hp}
theorem kd_int (i : Int) : KdOf K H (.int i) .int := .base (.int i)
theorem kd_bl (b : Bool) : KdOf K H (.bl b) .bl := .base (.bl b)
theorem kd_non : KdOf K H .non .non := .base .non
theorem kd_str (x : Str) : KdOf K H (.str x) .str := .base (.str x)
theorem kd_tup {a : Addr} {xs : List V} (h : SqT K H a xs) : KdOf K H (.ref a) .tup := by
  rcases h with (h | ⟨o, h⟩) | ⟨o, its, n, h, c, _⟩
  · exact .base (.tup h)
  · exact .fTuple h
  · exact .kTuple h c
theorem kd_lst {a : Addr} {xs : List V} (h : SqL K H a xs) : KdOf K H (.ref a) .lst := by
  rcases h with (h | ⟨o, h⟩) | ⟨o, its, n, h, c, _⟩
  · exact .base (.lst h)
  · exact .base (.frz h)
  · exact .kList h c
theorem kd_dct {a : Addr} {kvs : List (Key × V)} (h : H a = some (.dK kvs)) : KdOf K H (.ref a) .dct := .base (.dK h)
theorem kit_int (k : Kd) : PySem.W.kitOne K (.type k.name) (.type "int") = some (decide (k = .int) || decide (k = .bl)) := by
  cases k <;> exact kit_ty (by decide +kernel)
theorem kit_bool (k : Kd) : PySem.W.kitOne K (.type k.name) (.type "bool") = some (decide (k = .bl)) := by
  cases k <;> exact kit_ty (by decide +kernel)
theorem kit_tuple (k : Kd) : PySem.W.kitOne K (.type k.name) (.type "tuple") = some (decide (k = .tup)) := by
  cases k <;> exact kit_ty (by decide +kernel)
theorem kit_str (k : Kd) : PySem.W.kitOne K (.type k.name) (.type "str") = some (decide (k = .str)) := by
  cases k <;> exact kit_ty (by decide +kernel)
end
/-! ### heaps -/
theorem same_upd {H : Hp} {p : Addr} {o : HO} (h : H p = none) : Same H (upd H p o) := fun b x e => by
  rw [upd_ne (ne_of_none e h)]
  exact e
theorem same_mut {H H' : Hp} {p : Addr} {o : HO} (e : Same H H') (h : H p = none) : Same H (upd H' p o) := fun b x q => by
  rw [upd_ne (ne_of_none q h)]
  exact e b x q
theorem Same.tup {K : PySem.W.Frag} {H H' : Hp} {a : Addr} {xs : List V} (e : Same H H') (h : SqT K H a xs) : SqT K H' a xs := by
  rcases h with (h | ⟨o, h⟩) | h
  · exact .inl (.inl (e _ _ h))
  · exact .inl (.inr ⟨o, e _ _ h⟩)
  · exact .inr h
/-- all but the deck's two lists stays -/
def Kept (d c : Addr) (H H' : Hp) : Prop := ∀ b o, H b = some o → b ≠ d → b ≠ c → H' b = some o
theorem Kept.refl (d c : Addr) (H : Hp) : Kept d c H H := fun _ _ h _ _ => h
theorem Kept.trans {d c : Addr} {H H1 H2 : Hp} (a : Kept d c H H1) (b : Kept d c H1 H2) : Kept d c H H2 := fun x o h n m => b x o (a x o h n m) n m
theorem Kept.of {d c : Addr} {H H' : Hp} (a : Same H H') : Kept d c H H' := fun x o h _ _ => a x o h
/-- the deck: a list of the cells' list and the count of draws -/
structure Deck (H : Hp) (d c : Addr) (t : Int) : Prop where
  hd : H d = some (.lst [.ref c, .int t])
  hc : ∃ cells : List Int, H c = some (.lst (cells.map V.int)) ∧ (∀ x ∈ cells, 0 ≤ x) ∧ cells.length ≤ 63
  ne : c ≠ d
  t0 : 0 ≤ t
theorem Deck.same {H H' : Hp} {d c : Addr} {t : Int} (D : Deck H d c t) (s : Same H H') : Deck H' d c t := by
  obtain ⟨hd, ⟨cells, h1, h2⟩, n, t0⟩ := D
  exact ⟨s _ _ hd, ⟨cells, s _ _ h1, h2⟩, n, t0⟩
theorem Kept.tup {K : PySem.W.Frag} {d c : Addr} {t : Int} {H H' : Hp} {a : Addr} {xs : List V} (D : Deck H d c t) (e : Kept d c H H') (h : SqT K H a xs) : SqT K H' a xs := by
  obtain ⟨hd, ⟨cells, h1, h2⟩, n, t0⟩ := D
  rcases h with (h | ⟨o, h⟩) | h
  · exact .inl (.inl (e _ _ h (fun z => by subst z; rw [hd] at h; cases h) (fun z => by subst z; rw [h1] at h; cases h)))
  · exact .inl (.inr ⟨o, e _ _ h (fun z => by subst z; rw [hd] at h; cases h) (fun z => by subst z; rw [h1] at h; cases h)⟩)
  · exact .inr h
theorem at_int {xs : List Int} {z : Int} (h0 : 0 ≤ z) (h1 : z < (xs.length : Int)) : ∃ x, x ∈ xs ∧ xs[z.toNat]? = some x ∧ atI (xs.map V.int) z = some (.int x) := by
  have hl : z.toNat < xs.length := by omega
  refine ⟨xs[z.toNat], List.getElem_mem hl, List.getElem?_eq_getElem hl, ?_⟩
  refine at_of (j := z.toNat) (by omega) ?_
  rw [List.getElem?_map, List.getElem?_eq_getElem hl]
  rfl
theorem ix_nat {n : Nat} {z : Int} (h0 : 0 ≤ z) (h1 : z < (n : Int)) : ixN n z = some z.toNat := by
  unfold ixN
  rw [if_pos h0, if_pos h1]
end OC
set_option Elab.async false
set_option linter.all false
set_option maxRecDepth 100000
namespace OC
open PySem PySem.Spec PyProof.Rows L2
/-! ### readings by name -/
/-! ### data kept -/
mutual
theorem dp_same {K : PySem.W.Frag} {H H' : Hp} (e : Same H H') : ∀ (d : PyData) (v : V), Dp K H v d → Dp K H' v d
  | .none, _, h => by cases h; exact .non
  | .bool b, _, h => by cases h; exact .bl b
  | .int i, _, h => by cases h; exact .int i
  | .str x, _, h => by cases h; exact .str x
  | .list ds, _, h => by
    cases h with
    | lst hs ha => exact .lst (e.seq hs) (dpAll_same e ds _ ha)
  | .tuple ds, _, h => by
    cases h with
    | tup hs ha => exact .tup (Same.tup e hs) (dpAll_same e ds _ ha)
  | .dict _, _, h => by cases h
theorem dpAll_same {K : PySem.W.Frag} {H H' : Hp} (e : Same H H') : ∀ (ds : List PyData) (vs : List V), DpAll K H vs ds → DpAll K H' vs ds
  | [], _, h => by cases h; exact .nil
  | d :: ds, _, h => by
    cases h with
    | cons h1 h2 => exact .cons (dp_same e d _ h1) (dpAll_same e ds _ h2)
end
theorem dpAll_len {K : PySem.W.Frag} {H : Hp} : ∀ {vs : List V} {ds : List PyData}, DpAll K H vs ds → vs.length = ds.length
  | _, _, .nil => rfl
  | _, _, .cons _ t => by rw [List.length_cons, List.length_cons, dpAll_len t]
theorem dpAll_get {K : PySem.W.Frag} {H : Hp} : ∀ {vs : List V} {ds : List PyData} {i : Nat} {v : V}, DpAll K H vs ds → vs[i]? = some v → ∃ d, ds[i]? = some d ∧ d ∈ ds ∧ Dp K H v d
  | _, _, i, v, .nil, e => by simp at e
  | _, _, 0, v, .cons h t, e => by
    have e : _ = v := Option.some.inj e
    subst e
    exact ⟨_, rfl, List.mem_cons_self, h⟩
  | _, _, i + 1, v, .cons h t, e => by
    obtain ⟨d, h1, h2, h3⟩ := dpAll_get (i := i) (v := v) t e
    exact ⟨d, h1, List.mem_cons_of_mem _ h2, h3⟩
theorem dpAll_ints {K : PySem.W.Frag} {H : Hp} : ∀ ns : List Int, DpAll K H (ns.map V.int) (ns.map PyData.int)
  | [] => .nil
  | n :: r => .cons (.int n) (dpAll_ints r)
/-! ### any thing, with dicts: its kind -/
def keyD : Key → PyData
  | .inl i => .int i
  | .inr x => .str x
def flD : V → PyData
  | .bl b => .bool b | .int i => .int i | .str x => .str x | _ => .none
def flOk : V → Bool
  | .non => true | .bl _ => true | .int _ => true | .str _ => true | _ => false
mutual
inductive Rep (K : PySem.W.Frag) (H : Hp) (bad : Addr → Prop) : V → PyData → Prop
  | non : Rep K H bad .non .none
  | bl (b : Bool) : Rep K H bad (.bl b) (.bool b)
  | int (i : Int) : Rep K H bad (.int i) (.int i)
  | str (x : Str) : Rep K H bad (.str x) (.str x)
  | lst {a : Addr} {xs : List V} {ds : List PyData} : H a = some (.lst xs) → ¬ bad a → RepAll K H bad xs ds → Rep K H bad (.ref a) (.list ds)
  | tup {a : Addr} {xs : List V} {ds : List PyData} : SqT K H a xs → RepAll K H bad xs ds → Rep K H bad (.ref a) (.tuple ds)
  | dct {a : Addr} {kvs : List (Key × V)} : H a = some (.dK kvs) → (kvs.all fun p => flOk p.2) = true → Rep K H bad (.ref a) (.dict (kvs.map fun p => (keyD p.1, flD p.2)))
inductive RepAll (K : PySem.W.Frag) (H : Hp) (bad : Addr → Prop) : List V → List PyData → Prop
  | nil : RepAll K H bad [] []
  | cons {v : V} {vs : List V} {d : PyData} {ds : List PyData} : Rep K H bad v d → RepAll K H bad vs ds → RepAll K H bad (v :: vs) (d :: ds)
end
def kdOf : PyData → Kd
  | .none => .non | .bool _ => .bl | .int _ => .int | .str _ => .str | .list _ => .lst | .tuple _ => .tup | .dict _ => .dct
section
variable {K : PySem.W.Frag} {H : Hp} {bad : Addr → Prop}
theorem Rep.kd : ∀ {v : V} {d : PyData}, Rep K H bad v d → KdOf K H v (kdOf d)
  | _, _, .non => kd_non
  | _, _, .bl b => kd_bl b
  | _, _, .int i => kd_int i
  | _, _, .str x => kd_str x
  | _, _, .lst h _ _ => kd_lst (.inl (.inl h))
  | _, _, .tup h _ => kd_tup h
  | _, _, .dct h _ => kd_dct h
theorem repAll_len : ∀ {vs : List V} {ds : List PyData}, RepAll K H bad vs ds → vs.length = ds.length
  | _, _, .nil => rfl
  | _, _, .cons _ t => by rw [List.length_cons, List.length_cons, repAll_len t]
theorem repAll_get : ∀ {vs : List V} {ds : List PyData} {i : Nat} {v : V}, RepAll K H bad vs ds → vs[i]? = some v → ∃ d, ds[i]? = some d ∧ d ∈ ds ∧ Rep K H bad v d
  | _, _, i, v, .nil, e => by simp at e
  | _, _, 0, v, .cons h t, e => by
    have e : _ = v := Option.some.inj e
    subst e
    exact ⟨_, rfl, List.mem_cons_self, h⟩
  | _, _, i + 1, v, .cons h t, e => by
    obtain ⟨d, h1, h2, h3⟩ := repAll_get (i := i) (v := v) t e
    exact ⟨d, h1, List.mem_cons_of_mem _ h2, h3⟩
theorem repAll_append : ∀ {xs ys : List V} {ds es : List PyData}, RepAll K H bad xs ds → RepAll K H bad ys es → RepAll K H bad (xs ++ ys) (ds ++ es)
  | _, _, _, _, .nil, h => h
  | _, _, _, _, .cons h t, g => .cons h (repAll_append t g)
theorem repAll_ints : ∀ ns : List Int, RepAll K H bad (ns.map V.int) (ns.map PyData.int)
  | [] => .nil
  | n :: r => .cons (.int n) (repAll_ints r)
end
/-! ### tuples stay -/
def Tk (H H' : Hp) : Prop := ∀ (K : PySem.W.Frag) (a : Addr) (xs : List V), SqT K H a xs → SqT K H' a xs
theorem Tk.refl (H : Hp) : Tk H H := fun _ _ _ h => h
theorem Tk.trans {H H1 H2 : Hp} (a : Tk H H1) (b : Tk H1 H2) : Tk H H2 := fun K x xs h => b K x xs (a K x xs h)
theorem Tk.of {H H' : Hp} (s : Same H H') : Tk H H' := fun _ _ _ h => Same.tup s h
theorem Tk.kept {d c : Addr} {t : Int} {H H' : Hp} (D : Deck H d c t) (k : Kept d c H H') : Tk H H' := fun _ _ _ h => Kept.tup D k h
theorem Tk.mut {H H' : Hp} {D : Addr} {xs ys : List V} (k : Tk H H') (h : H' D = some (.lst xs)) : Tk H (upd H' D (.lst ys)) := fun K a zs q => by
  rcases k K a zs q with (q | ⟨o, q⟩) | q
  · refine .inl (.inl ?_)
    rw [upd_ne (fun z => by subst z; rw [h] at q; cases q)]
    exact q
  · refine .inl (.inr ⟨o, ?_⟩)
    rw [upd_ne (fun z => by subst z; rw [h] at q; cases q)]
    exact q
  · exact .inr q
theorem Tk.new {H H' : Hp} {D : Addr} {o : HO} (k : Tk H H') (h : H' D = none) : Tk H (upd H' D o) := k.trans (Tk.of (same_upd h))
/-- what stays of things: tuples and dicts all, lists but the bad ones -/
structure Stays (bad : Addr → Prop) (H H' : Hp) : Prop where
  t : Tk H H'
  d : ∀ a kvs, H a = some (.dK kvs) → H' a = some (.dK kvs)
  l : ∀ a xs, H a = some (.lst xs) → ¬ bad a → H' a = some (.lst xs)
theorem Stays.of {bad : Addr → Prop} {H H' : Hp} (s : Same H H') : Stays bad H H' := ⟨Tk.of s, fun _ _ h => s _ _ h, fun _ _ h _ => s _ _ h⟩
theorem Stays.trans {bad : Addr → Prop} {H H1 H2 : Hp} (a : Stays bad H H1) (b : Stays bad H1 H2) : Stays bad H H2 := ⟨a.t.trans b.t, fun x y h => b.d x y (a.d x y h), fun x y h n => b.l x y (a.l x y h n) n⟩
theorem Stays.kept {d c : Addr} {t : Int} {H H' : Hp} (D : Deck H d c t) (k : Kept d c H H') : Stays (fun a => a = d ∨ a = c) H H' := by
  refine ⟨Tk.kept D k, fun a xs h => k a _ h (fun z => ?_) (fun z => ?_), fun a xs h nb => k a _ h (fun z => nb (.inl z)) (fun z => nb (.inr z))⟩
  · subst z; rw [D.hd] at h; cases h
  · obtain ⟨cells, h1, _⟩ := D.hc
    subst z; rw [h1] at h; cases h
mutual
theorem rep_stays {K : PySem.W.Frag} {bad : Addr → Prop} {H H' : Hp} (e : Stays bad H H') : ∀ (d : PyData) (v : V), Rep K H bad v d → Rep K H' bad v d
  | .none, _, h => by cases h; exact .non
  | .bool b, _, h => by cases h; exact .bl b
  | .int i, _, h => by cases h; exact .int i
  | .str x, _, h => by cases h; exact .str x
  | .list ds, _, h => by
    cases h with
    | lst hs hb ha => exact .lst (e.l _ _ hs hb) hb (repAll_stays e ds _ ha)
  | .tuple ds, _, h => by
    cases h with
    | tup hs ha => exact .tup (e.t _ _ _ hs) (repAll_stays e ds _ ha)
  | .dict _, _, h => by
    cases h with
    | dct hs hf => exact .dct (e.d _ _ hs) hf
theorem repAll_stays {K : PySem.W.Frag} {bad : Addr → Prop} {H H' : Hp} (e : Stays bad H H') : ∀ (ds : List PyData) (vs : List V), RepAll K H bad vs ds → RepAll K H' bad vs ds
  | [], _, h => by cases h; exact .nil
  | d :: ds, _, h => by
    cases h with
    | cons h1 h2 => exact .cons (rep_stays e d _ h1) (repAll_stays e ds _ h2)
end
/-! ### zip of two tuples, walked -/
theorem walk_zipT {K : PySem.W.Frag} {a b : Addr} {xs ys : List V} {n : Nat} (hn : n = min xs.length ys.length) : Walk (RZ.ItzT K a b) n (fun H => SqT K H a xs ∧ SqT K H b ys) (YPair (fun i => xs[i]?) (fun i => ys[i]?)) where
  goes i H hi q := by
    have hx : i < xs.length := by rw [hn] at hi; exact Nat.lt_of_lt_of_le hi (Nat.min_le_left _ _)
    have hy : i < ys.length := by rw [hn] at hi; exact Nat.lt_of_lt_of_le hi (Nat.min_le_right _ _)
    exact ⟨xs, ys, _, _, q.1, q.2, List.getElem?_eq_getElem hx, List.getElem?_eq_getElem hy⟩
  stops H q := ⟨xs, ys, q.1, q.2, by rw [hn]; omega⟩
  yields i H v H' _ q y := by
    obtain ⟨T, x, z, ev, nT, eH, gx, gz⟩ := y
    exact ⟨T, x, z, ev, nT, eH, gx xs q.1, gz ys q.2⟩
/-! ### the same: two things of one data -/
/-- a thing that is no tuple -/
def Sc : PyData → Prop
  | .none => True | .bool _ => True | .int _ => True | .str _ => True | _ => False
def Lv (L : PyData → Prop) (d : PyData) : Prop := Sc d ∨ ∃ ds, d = .tuple ds ∧ ds.length ≤ 1000 ∧ ∀ x ∈ ds, L x
def sp_same (K : PySem.W.Frag) (L : PyData → Prop) : Sp := fun vs H Q _ => ∃ (v u : V) (d : PyData), vs = [v, u] ∧ Dp K H v d ∧ Dp K H u d ∧ L d ∧ ∀ H', Same H H' → Q (.bl true) H'
/-- no call of it is promised anything -/
theorem ok_never {P : Program} {w : World} {K : PySem.W.Frag} {mg : Str → Option Value} {base : Heap} {x : Str} {st : Stmt} {N ps : List Str} (D : Df K mg x st ps) (S : FnScope N ps (defScope st)) (L : PyData → Prop) (hL : ∀ d, ¬ L d) (hp : ps.length = 2) : Ok P w K mg base 1 x ps (sp_same K L) :=
  D.ok S (fun vs H Q E h => by obtain ⟨v, u, d, rfl, _⟩ := h; exact hp.symm) fun f cdv A outer s H vs Q E hr h => by
    obtain ⟨v, u, d, _, _, _, h, _⟩ := h
    exact (hL d h).elim
/-- the kind of data -/
theorem dp_kd {K : PySem.W.Frag} {H : Hp} : ∀ {v : V} {d : PyData}, Dp K H v d → KdOf K H v (kdOf d)
  | _, _, .non => kd_non
  | _, _, .bl b => kd_bl b
  | _, _, .int i => kd_int i
  | _, _, .str x => kd_str x
  | _, _, .lst h _ => kd_lst h
  | _, _, .tup h _ => kd_tup h
end OC
set_option Elab.async false
set_option linter.all false
set_option maxRecDepth 100000
set_option maxHeartbeats 2000000
namespace OC
open PySem PySem.Spec PyProof.Rows L2
/-! ### a tuple taken once is itself -/
theorem tuple_mul1 (l : Addr) (its : Array Value) (m : Nat) (od : Option Addr) (so : Array (Option Value)) (u : Tok) :
    Meets (Builtin.«tuple.__mul__» ⟨[.ref l, .int 1 u], []⟩) (fun _ R s => s.heap.get? l = some { cls := .type "tuple", dict := od, data := .seq its m, slots := so } ∧ R (.ok (.ret (Value.ref l))) s) := by
  refine .of_wp fun prog w A R s hh => ?_
  obtain ⟨hp, g, d, tk, os⟩ := s
  obtain ⟨hl, hR⟩ := hh
  have fi := AutoSeq1.idx_int
  have c0 : (decide ((1 : Int) < -(2 ^ 63)) || decide ((1 : Int) ≥ 2 ^ 63)) = false := by decide
  have c1 : (its.isEmpty || (1 : Int) == 1) = true := by simp
  wp_walk using wpAny_loadPart' hl
  exact ⟨_, rfl, hR⟩
/-- t * n: a new tuple, or for n = 1 the same -/
def rRepA (K : PySem.W.Frag) : R2 := fun x y H Q => ∃ l k xs, x = .ref l ∧ y = .int k ∧ SqT K H l xs ∧ xs ≠ [] ∧ 1 ≤ k ∧ k ≤ 1000 ∧ xs.length ≤ 1000 ∧ (k = 1 → Q (.ref l) H) ∧ (2 ≤ k → ∀ p, H p = none → Q (.ref p) (upd H p (.tup (List.replicate k.toNat xs).flatten)))
theorem op_repA {X : Cx} : OpR X (binaryOp .Mult) (rRepA X.K) := by
  intro pins s σ H x y v u Q I rx ry h
  obtain ⟨l, k, xs, ex, ey, hT, hne, h1, h2, hz, q1, q2⟩ := h
  by_cases hk : k = 1
  · subst hk ex ey
    have q := q1 rfl
    cases rx
    obtain ⟨t, rfl⟩ := ry
    obtain ⟨its, r, ⟨⟨cls, dd, data, sl⟩, ho, hc, n, hd⟩, hs⟩ := I.tuple hT
    simp only at hc hd
    subst hc hd
    refine wpAny_binaryOp_repeat_ref (T := "tuple") (U := "int") (by decide) ⟨_, ho, rfl⟩ (fun s' => typeIs_int s' 1 t) noFill_tuple_mul F.fills_int_mul F.slot_int_rmul repeat_tuple F.slot_int_index.lookup ?_
    refine call_meets F.slot_int_rmul (typeIs_int s 1 t) F.entry_int_rmul (F.args_int_rmul_2 _ _) (int_rmul_tuple 1 t l its.toArray n dd sl) ⟨ho, rfl, ⟨_, ho, rfl⟩, ?_⟩
    exact call_meets F.slot_tuple_mul ⟨_, ho, rfl⟩ F.entry_tuple_mul (F.args_tuple_mul_2 _ _) (tuple_mul1 l its.toArray n dd sl t) ⟨ho, .ref l, H, I, rfl, q⟩
  · exact op_repT pins s σ H x y v u Q I rx ry ⟨l, k, xs, ex, ey, hT, hne, by omega, h2, hz, q2 (by omega)⟩
/-- the same, whichever tuple it is -/
def rRepB (K : PySem.W.Frag) : R2 := fun x y H Q => ∃ l k xs, x = .ref l ∧ y = .int k ∧ SqT K H l xs ∧ xs ≠ [] ∧ 1 ≤ k ∧ k ≤ 1000 ∧ xs.length ≤ 1000 ∧ ∀ p H', Same H H' → SqT K H' p (List.replicate k.toNat xs).flatten → Q (.ref p) H'
theorem op_repB {X : Cx} : OpR X (binaryOp .Mult) (rRepB X.K) := by
  intro pins s σ H x y v u Q I rx ry h
  obtain ⟨l, k, xs, ex, ey, hT, hne, h1, h2, hz, q⟩ := h
  refine op_repA pins s σ H x y v u Q I rx ry ⟨l, k, xs, ex, ey, hT, hne, h1, h2, hz, fun hk => q l H (Same.refl H) ?_, fun _ p np => q p _ (same_upd np) (.inl (.inl upd_same))⟩
  subst hk
  rw [show ((1 : Int).toNat) = 1 from rfl, List.replicate_one, List.flatten_cons, List.flatten_nil, List.append_nil]
  exact hT
end OC
set_option Elab.async false
set_option linter.all false
set_option maxRecDepth 100000
namespace OC
open PySem PySem.Spec PyProof.Rows L2
theorem new_of {H H' : Hp} {p : Addr} {o : HO} (h : upd H p o = H') (n : H p = none) : Same H H' ∧ H' p = some o := by
  subst h
  exact ⟨same_upd n, upd_same⟩
theorem sz1000 {n : Nat} (h : n ≤ 1000) : n ≤ sizeLine := Nat.le_of_lt (small1000 h)
mutual
def noL : PyData → Bool
  | .none => true | .bool _ => true | .int _ => true | .str _ => true | .list _ => false | .tuple ds => noLAll ds | .dict _ => false
def noLAll : List PyData → Bool
  | [] => true
  | d :: ds => noL d && noLAll ds
end
mutual
theorem dp_tk {K : PySem.W.Frag} {H H' : Hp} (e : Tk H H') : ∀ (d : PyData) (v : V), noL d = true → Dp K H v d → Dp K H' v d
  | .none, _, _, h => by cases h; exact .non
  | .bool b, _, _, h => by cases h; exact .bl b
  | .int i, _, _, h => by cases h; exact .int i
  | .str x, _, _, h => by cases h; exact .str x
  | .list ds, _, n, h => by simp [noL] at n
  | .tuple ds, _, n, h => by
    cases h with
    | tup hs ha => exact .tup (e K _ _ hs) (dpAll_tk e ds _ (by simpa [noL] using n) ha)
  | .dict _, _, _, h => by cases h
theorem dpAll_tk {K : PySem.W.Frag} {H H' : Hp} (e : Tk H H') : ∀ (ds : List PyData) (vs : List V), noLAll ds = true → DpAll K H vs ds → DpAll K H' vs ds
  | [], _, _, h => by cases h; exact .nil
  | d :: ds, _, n, h => by
    have n' : noL d = true ∧ noLAll ds = true := by simpa [noLAll] using n
    cases h with
    | cons h1 h2 => exact .cons (dp_tk e d _ n'.1 h1) (dpAll_tk e ds _ n'.2 h2)
end
/-! ### rows as data -/
def rowD (r : List Int) : PyData := .tuple (r.map PyData.int)
theorem noL_ints : ∀ r : List Int, noLAll (r.map PyData.int) = true
  | [] => by simp [noLAll]
  | n :: r => by simp [noLAll, noL, noL_ints r]
theorem noL_row (r : List Int) : noL (rowD r) = true := by
  unfold rowD
  rw [noL]
  exact noL_ints r
theorem noL_rows : ∀ rs : List (List Int), noLAll (rs.map rowD) = true
  | [] => by simp [noLAll]
  | r :: rs => by simp [noLAll, noL_row, noL_rows rs]
theorem lay_ints : ∀ ns : List Int, PyData.canLayAll0 (ns.map PyData.int) = true
  | [] => by simp only [List.map_nil, PyData.canLayAll0]
  | n :: r => by simp only [List.map_cons, PyData.canLayAll0, PyData.canLay0, lay_ints r, Bool.and_self]
theorem depth_ints : ∀ ns : List Int, PyData.depthAll (ns.map PyData.int) = 0
  | [] => by simp only [List.map_nil, PyData.depthAll]
  | n :: r => by simp only [List.map_cons, PyData.depthAll, PyData.depth, depth_ints r, Nat.max_self]
theorem shaped_ints (ns : List Int) : SeqAt.shaped (.list (ns.map PyData.int)) = true := by
  unfold SeqAt.shaped
  simp only [PyData.canLay0, lay_ints, PyData.depth, depth_ints, Bool.true_and]
  rfl
theorem row_dp {K : PySem.W.Frag} {H : Hp} {a : Addr} {r : List Int} (h : SqT K H a (r.map V.int)) : Dp K H (.ref a) (rowD r) := .tup h (dpAll_ints r)
/-! ### comprehensions of ints -/
def LcGoal (J : It) (g : TG) (tt : TT) (te : TE) (vs : List Nat) (σ : L2.St) (H : Hp) (Qd : Addr → Hp → Prop) : Prop := ∀ D, H D = none → ∃ W : Nat → Nat → Hp → Prop, (∃ m, W 0 m (upd H D (.lst []))) ∧ ∀ i m H, W i m H →
  (J.stop i H ∧ Qd D H) ∨ (J.go i H ∧ ∃ Nx : Hp → Prop, (∀ H', Nx H' → ∃ m', m' < m ∧ W (i + 1) m' H') ∧ ∀ x H', J.yld i H x H' → g x (wipe σ vs) H' fun σ2 H2 => wipe σ2 vs = wipe σ vs ∧ tt σ2 H2 fun b H3 =>
    if b = true then te σ2 H3 fun y H4 => ∃ acc, H4 D = some (.lst acc) ∧ acc.length < sizeLine ∧ Nx (upd H4 D (.lst (acc ++ [y]))) else Nx H3)
end OC
set_option Elab.async false
set_option linter.all false
set_option maxRecDepth 100000
set_option maxHeartbeats 2000000
/-! defs that are called while no repr is under way (A.guards = some []): the layer's promise with that one fact more -/
namespace OC
open PySem PySem.Spec PyProof.Rows L2
structure FnG (P : Program) (w : World) (K : PySem.W.Frag) (mg : Str → Option Value) (base : Heap) (CX : CXT) (k : Nat)
    (f : Addr) (fd : FuncData) (ps : List Str) (sp : Sp) : Prop where
  len : ∀ vs H Q E, sp vs H Q E → vs.length = ps.length
  go : ∀ (A : Around) (outer : List Env) (s : Shared) (H : Hp) (args : Args) (us : List Value) (vs : List V) (Q : VK) (E : XK),
    Room k A → A.guards = some [] → Env0 P w K mg base A outer s H → BindsTo s fd args (ps.zip us) → Vals vs us → sp vs H Q E →
    codeAny (model P w) A (.call (.ref f) args) (CR CX outer P w H s Q E) s
section
variable {P : Program} {w : World} {K : PySem.W.Frag} {mg : Str → Option Value} {base : Heap} {CX : CXT} {k : Nat} {f : Addr} {fd : FuncData} {ps : List Str} {sp : Sp}
theorem FnG.of (F : FnOk P w K mg base CX k f fd ps sp) : FnG P w K mg base CX k f fd ps sp :=
  ⟨F.len, fun A outer s H args us vs Q E hr _ => F.run A outer s H args us vs Q E hr⟩
theorem FnG.mono {j : Nat} (F : FnG P w K mg base CX j f fd ps sp) (h : j ≤ k) : FnG P w K mg base CX k f fd ps sp :=
  ⟨F.len, fun A outer s H args us vs Q E hr => F.go A outer s H args us vs Q E (hr.mono h)⟩
end
/-- from the body, where no repr is under way -/
theorem fnG_of {CX : CXT} {P : Program} {w : World} {K : PySem.W.Frag} {mg : Str → Option Value} {base : Heap} {k : Nat} {f : Addr}
    {nm ql : Str} {pr : Arguments} {bd : List Stmt} {sc : Scope} {dV kV doc pm cdv ct oc : Value} {an od : Option Addr}
    {osl : Array (Option Value)} {N ps : List Str} {sp : Sp}
    (lk : K.lookup f = some ⟨oc, od, .func (PySem.W.fnOf nm ql pr bd sc dV kV doc pm an cdv ct), osl⟩)
    (hcd : PySem.W.codeIn K cdv ql = true) (S : FnScope N ps sc)
    (len : ∀ vs H Q E, sp vs H Q E → vs.length = ps.length)
    (hbody : ∀ (A : Around) (outer : List Env) (s : Shared) (H : Hp) (vs : List V) (Q : VK) (E : XK),
      Room k (A.deeper (envOfC ql sc s.heap.objs.size f cdv)) → A.guards = some [] → sp vs H Q E →
      ∃ t, PSs (cxOf CX P w K mg base N ql sc f cdv A outer s H E) bd t ∧ t { nx := fun _ H' => Q .non H', rt := Q } (start N vs) H) :
    FnG P w K mg base CX (k + 1) f (PySem.W.fnOf nm ql pr bd sc dV kV doc pm an cdv ct) ps sp where
  len := len
  go A outer s H args us vs Q E hr hgd e0 hb r hsp := by
    have same : ∀ b o, base.get? b = some o → s.heap.get? b = some o := fun b o e => (e0.bs b o e).1
    have inK : K.In s.heap := e0.mod.kin.keeps same
    have noLim : s.heap.NoLimit := e0.mod.nolimit.keeps same
    have kinds : ∀ y ∈ ps.zip us, sc.names.lookup y.1 = some .local ∨
        (sc.names.lookup y.1 = some .cell ∧ ((cellsFrom (s.heap.objs.size + 1) sc.names []).lookup y.1).isSome = true) := by
      rintro ⟨n, v⟩ hy
      exact (S.par n (List.of_mem_zip hy).1).imp id fun q => ⟨q, PySem.W.cellsFrom_some _ _ _ (.inl q)⟩
    apply codeAny_call_function hr.depth (inK _ _ lk) rfl S.co S.gen rfl (PySem.W.codeRec_of inK hcd)
    apply hb
    apply wpAny_newFunctionEnv_cells S.kind kinds
    intro env he s1 x
    cases he
    refine ⟨noLim.keeps x.toInCall.keep, codeAny_func ?_⟩
    obtain ⟨t, ht, hq⟩ := hbody A outer s H vs Q E (hr.deeper _) hgd hsp
    have I0 := inv_start (CX := CX) (P := P) (w := w) (E := E) S hr.hd e0 (len _ _ _ _ hsp) r x
    have ran := ht.run [] s1 (start N vs) H _ I0 hq
    apply wpAny_mono ran
    · intro fl s' hs
      rcases fl with _ | _ | _ | u
      all_goals first
        | (obtain ⟨v, σ', H', J, rv, q⟩ := hs; exact ⟨v, H', J.os, J.bare, J.base, J.hok, rv, q⟩)
        | (obtain ⟨σ', H', J, q⟩ := hs; exact ⟨V.non, H', J.os, J.bare, J.base, J.hok, rfl, q⟩)
        | (obtain ⟨_, _, _, q⟩ := hs; exact q.elim)
    · exact fun e s' hs => hs
/-! ### by name -/
section
variable {P : Program} {w : World} {K : PySem.W.Frag} {mg : Str → Option Value} {base : Heap}
theorem funG {x : Str} {st : Stmt} {f : Addr} {fd : FuncData} {N ps : List Str} {k : Nat} {sp : Sp} (F : Fun K x x st f fd) (S : FnScope N ps (defScope st)) (len : ∀ vs H Q E, sp vs H Q E → vs.length = ps.length)
    (hbody : ∀ (cdv : Value) (A : Around) (outer : List Env) (s : Shared) (H : Hp) (vs : List V) (Q : VK) (E : XK), Room k (A.deeper (envOfC x (defScope st) s.heap.objs.size f cdv)) → A.guards = some [] → sp vs H Q E →
      ∃ t, PSs (cxOf CX0 P w K mg base N x (defScope st) f cdv A outer s H E).nox (defBody st) t ∧ t { nx := fun _ H' => Q .non H', rt := Q } (start N vs) H) : FnG P w K mg base CX0 (k + 1) f fd ps sp := by
  obtain ⟨oc, od, kV, doc, pm, an, cdv, ct, osl, rfl, lk, hcd⟩ := F.ex
  refine fnG_of lk hcd S len ?_
  intro A outer s H vs Q E hr hgd hsp
  obtain ⟨t, h, q⟩ := hbody cdv A outer s H vs Q E hr hgd hsp
  exact ⟨t, h.nox, q⟩
end
end OC
set_option Elab.async false
set_option linter.all false
set_option maxRecDepth 100000
set_option maxHeartbeats 2000000
set_option Elab.async false
set_option linter.all false
set_option maxRecDepth 100000
set_option maxHeartbeats 2000000
/-! t[::-1] of a tuple -/
set_option Elab.async false
set_option linter.all false
set_option maxRecDepth 100000
set_option maxHeartbeats 2000000
/-! repr of things, where no repr is under way -/
namespace OC
open PySem PySem.Spec PyProof.Rows L2
mutual
def lstless : PyData → Bool
  | .none => true | .bool _ => true | .int _ => true | .str _ => true | .list _ => false | .tuple ds => lstlessAll ds | .dict _ => true
def lstlessAll : List PyData → Bool
  | [] => true
  | d :: ds => lstless d && lstlessAll ds
end
section
variable {X : Cx} {pins : List (Addr × Obj)} {σ : L2.St} {H : Hp} {s : Shared} {bad : Addr → Prop}
theorem reads_key {h : Heap} {k : Key} {u : Value} (e : keyIs k u = true) : Reads h u (keyD k) [] := by
  rcases keyIs_shape e with ⟨i, t, rfl, rfl⟩ | ⟨x, t, rfl, rfl⟩
  · exact .int i t
  · exact .str x t
theorem reads_fl {h : Heap} : ∀ {v : V} {u : Value}, flOk v = true → RelV v u → Reads h u (flD v) []
  | .non, _, _, r => by cases r; exact .none
  | .bl b, _, _, r => by cases r; exact .bool b
  | .int i, _, _, r => by obtain ⟨t, rfl⟩ := r; exact .int i t
  | .str x, _, _, r => by obtain ⟨t, rfl⟩ := r; exact .str x t
theorem reads_pairs {h : Heap} {P : Program} {w : World} : ∀ {es : List DictEntry} {vs : List (Key × Value)} {kvs : List (Key × V)}, Pairs (mixKind P w) es vs → KV kvs vs → (kvs.all fun p => flOk p.2) = true →
    ReadsAll h (es.map (·.key)) (kvs.map fun p => keyD p.1) [] ∧ ReadsAll h (es.map (·.val)) (kvs.map fun p => flD p.2) []
  | _, _, _, .nil, .nil, _ => ⟨.nil, .nil⟩
  | _, _, _, .cons h1 h2 t, .cons ⟨e1, e2⟩ t2, hf => by
    rw [List.all_cons, Bool.and_eq_true] at hf
    obtain ⟨a, b⟩ := reads_pairs (h := h) t t2 hf.2
    have k1 := reads_key (h := h) (show keyIs _ _ = true from h1)
    rw [← e1] at k1
    have v1 := reads_fl (h := h) hf.1 e2
    rw [← h2] at v1
    exact ⟨.cons k1 a, .cons v1 b⟩
end
/-- what repr asks of a thing -/
structure Fit (d : PyData) : Prop where
  len : d.shown.length ≤ 1000000
  sh : d.showable = true
  dp : d.depth ≤ 50
  ok : d.hasDict = true → lstless d = true
end OC
set_option Elab.async false
set_option linter.all false
set_option maxRecDepth 100000
set_option maxHeartbeats 2000000
/-! xs == [], xs != [], whatever xs holds -/
namespace OC
open PySem PySem.Spec PyProof.Rows L2
def rEqNil : R2 := fun x y H Q => ∃ l b xs, x = .ref l ∧ y = .ref b ∧ H l = some (.lst xs) ∧ H b = some (.lst []) ∧ Q (.bl xs.isEmpty) H
theorem shaped_nil : SeqAt.shaped (.list []) = true := shaped_ints []
theorem op_eqNil {X : Cx} (hu : X.A.units + 64 < cLine) : OpR X (compareOp .Eq) rEqNil := by
  intro pins s σ H x y v u Q I rx ry h
  obtain ⟨l, b, xs, ex, ey, hl, hb, q⟩ := h
  cases xs with
  | nil =>
    subst ex ey
    exact op_eqD hu pins s σ H _ _ v u Q I rx ry ⟨.list [], .list [], .lst (.inl (.inl hl)) .nil, .lst (.inl (.inl hb)) .nil, shaped_nil, shaped_nil, q⟩
  | cons z r =>
    subst ex ey
    cases rx
    cases ry
    obtain ⟨its, r1, p1, _⟩ := I.list (.inl (.inl hl))
    obtain ⟨its2, r2, p2, _⟩ := I.list (.inl (.inl hb))
    have l1 := r1.length
    have l2 := r2.length
    refine SeqAt.eq_list_lengthsAt p1.isList p2.isList ?_ (by omega) ⟨.bl false, H, I, rfl, q⟩
    rw [List.size_toArray, List.size_toArray, ← l1, ← l2]
    rfl
end OC
set_option Elab.async false
set_option linter.all false
set_option maxRecDepth 100000
set_option maxHeartbeats 1000000
/-! things as data: what repr and the judges ask of them -/
namespace OC
open PySem PySem.Spec PyProof.Rows L2
/-- nothing is bad -/
abbrev NB : Addr → Prop := fun _ => False
/-- fit for repr, with bounds -/
structure FitB (B k : Nat) (d : PyData) : Prop where
  len : d.shown.length ≤ B
  sh : d.showable = true
  dp : d.depth ≤ k
  ok : d.hasDict = true → lstless d = true
theorem FitB.mono {B B' k k' : Nat} {d : PyData} (h : FitB B k d) (hB : B ≤ B') (hk : k ≤ k') : FitB B' k' d := ⟨Nat.le_trans h.len hB, h.sh, Nat.le_trans h.dp hk, h.ok⟩
theorem FitB.fit {B k : Nat} {d : PyData} (h : FitB B k d) (hB : B ≤ 1000000) (hk : k ≤ 50) : Fit d := ⟨Nat.le_trans h.len hB, h.sh, Nat.le_trans h.dp hk, h.ok⟩
theorem log_small {i : Int} (h : i.natAbs < 10 ^ 40) : i.natAbs.log2 < 1920 := by
  by_cases hz : i.natAbs = 0
  · rw [hz]
    decide
  · exact (Nat.log2_lt hz).mpr (Nat.lt_of_lt_of_le h (by decide +kernel))
theorem fit_int {i : Int} (h : i.natAbs < 10 ^ 40) : FitB 50 0 (.int i) := by
  refine ⟨?_, ?_, by simp [PyData.depth], by simp [PyData.hasDict]⟩
  · have e := int_text_length_le10 (k := 40) (by decide) h
    show (Str.ofString (toString i)).length ≤ 50
    rw [PySem.ofString_length]
    omega
  · simp only [PyData.showable]
    exact decide_eq_true (log_small h)
theorem sum_le {B : Nat} : ∀ {ts : List Str}, (∀ t ∈ ts, t.length ≤ B) → (ts.map (·.length)).sum ≤ ts.length * B
  | [], _ => by simp
  | t :: r, h => by
    have h1 := h t List.mem_cons_self
    have h2 := sum_le (ts := r) fun x hx => h x (List.mem_cons_of_mem _ hx)
    rw [List.map_cons, List.sum_cons, List.length_cons, Nat.add_mul]
    omega
theorem shownAll_map : ∀ ds : List PyData, PyData.shownAll ds = ds.map PyData.shown
  | [] => by simp [PyData.shownAll]
  | d :: r => by simp [PyData.shownAll, shownAll_map r]
theorem showAll_of : ∀ {ds : List PyData}, (∀ d ∈ ds, d.showable = true) → PyData.showableAll ds = true
  | [], _ => by simp [PyData.showableAll]
  | d :: r, h => by simp [PyData.showableAll, h d List.mem_cons_self, showAll_of (ds := r) fun x hx => h x (List.mem_cons_of_mem _ hx)]
theorem depthAll_of {k : Nat} : ∀ {ds : List PyData}, (∀ d ∈ ds, d.depth ≤ k) → PyData.depthAll ds ≤ k
  | [], _ => by simp [PyData.depthAll]
  | d :: r, h => by
    have h1 := h d List.mem_cons_self
    have h2 := depthAll_of (ds := r) fun x hx => h x (List.mem_cons_of_mem _ hx)
    simp only [PyData.depthAll]
    omega
/-- a row of rests, by data -/
def restD (p : Int) : PyData → Bool
  | .int i => decide (0 ≤ i) && decide (i < p)
  | _ => false
def isRowD (p n : Int) : PyData → Bool
  | .tuple ds => decide ((ds.length : Int) = n) && ds.all (restD p)
  | _ => false
/-- a tuple's length is within bounds -/
def lenOk : PyData → Prop
  | .tuple ds => ds.length ≤ 1000
  | _ => True
theorem row_rep {K : PySem.W.Frag} {H : Hp} {bad : Addr → Prop} {a : Addr} {r : List Int} (h : SqT K H a (r.map V.int)) : Rep K H bad (.ref a) (rowD r) := .tup h (repAll_ints r)
end OC
set_option Elab.async false
set_option linter.all false
set_option maxRecDepth 100000
set_option maxHeartbeats 1000000
/-! slices and sums of tuples, whichever tuple is told -/
namespace OC
open PySem PySem.Spec PyProof.Rows L2
theorem cut_whole {xs : List V} {lo hi : Option Int} (h : HT.sIx xs.length 0 lo = 0 ∧ HT.sIx xs.length xs.length hi = xs.length) : cutV xs lo hi = xs := by
  unfold cutV
  rw [h.1, h.2, List.drop_zero, Nat.sub_zero, List.take_length]
def rSlB (K : PySem.W.Frag) : V → Option Int → Option Int → Hp → VK → Prop := fun x lo hi H Q => ∃ a xs, x = .ref a ∧ SqT K H a xs ∧ ∀ p H', Same H H' → SqT K H' p (cutV xs lo hi) → Q (.ref p) H'
theorem sl_tupB {X : Cx} : SlR X (rSlB X.K) := by
  intro pins s σ H x v vl vu lo hi sl Q I rx hs pl pu h
  obtain ⟨a, xs, ex, hx, q⟩ := h
  exact sl_tupA pins s σ H x v vl vu lo hi sl Q I rx hs pl pu ⟨a, xs, ex, hx, fun hw => q a H (Same.refl H) (by rw [cut_whole hw]; exact hx), fun _ p np => q p _ (same_upd np) (.inl (.inl upd_same))⟩
def rCatB (K : PySem.W.Frag) : R2 := fun x y H Q => ∃ a b xs ys, x = .ref a ∧ y = .ref b ∧ SqT K H a xs ∧ SqT K H b ys ∧ xs.length + ys.length ≤ sizeLine ∧ ∀ p H', Same H H' → SqT K H' p (xs ++ ys) → Q (.ref p) H'
theorem op_catB {X : Cx} : OpR X (binaryOp .Add) (rCatB X.K) := by
  intro pins s σ H x y v u Q I rx ry h
  obtain ⟨a, b, xs, ys, ex, ey, hx, hy, hz, q⟩ := h
  refine op_catA pins s σ H x y v u Q I rx ry ⟨a, b, xs, ys, ex, ey, hx, hy, hz, fun z => q b H (Same.refl H) ?_, fun _ z => q a H (Same.refl H) ?_, fun _ _ p np => q p _ (same_upd np) (.inl (.inl upd_same))⟩
  · rw [z, List.nil_append]
    exact hy
  · rw [z, List.append_nil]
    exact hx
mutual
theorem rep_weak {K : PySem.W.Frag} {b1 b2 : Addr → Prop} {H : Hp} (e : ∀ a, b2 a → b1 a) : ∀ (d : PyData) (v : V), Rep K H b1 v d → Rep K H b2 v d
  | .none, _, h => by cases h; exact .non
  | .bool b, _, h => by cases h; exact .bl b
  | .int i, _, h => by cases h; exact .int i
  | .str x, _, h => by cases h; exact .str x
  | .list ds, _, h => by
    cases h with
    | lst hs hb ha => exact .lst hs (fun z => hb (e _ z)) (repAll_weak e ds _ ha)
  | .tuple ds, _, h => by
    cases h with
    | tup hs ha => exact .tup hs (repAll_weak e ds _ ha)
  | .dict _, _, h => by
    cases h with
    | dct hs hf => exact .dct hs hf
theorem repAll_weak {K : PySem.W.Frag} {b1 b2 : Addr → Prop} {H : Hp} (e : ∀ a, b2 a → b1 a) : ∀ (ds : List PyData) (vs : List V), RepAll K H b1 vs ds → RepAll K H b2 vs ds
  | [], _, h => by cases h; exact .nil
  | d :: ds, _, h => by
    cases h with
    | cons h1 h2 => exact .cons (rep_weak e d _ h1) (repAll_weak e ds _ h2)
end
end OC
set_option Elab.async false
set_option linter.all false
set_option maxRecDepth 100000
set_option maxHeartbeats 1000000
/-! comprehensions over lists and tuples of things -/
namespace OC
open PySem PySem.Spec PyProof.Rows L2
mutual
theorem rep_fresh {K : PySem.W.Frag} {bad : Addr → Prop} {H : Hp} {B : Addr} (n : H B = none) : ∀ (d : PyData) (v : V), Rep K H bad v d → Rep K H (fun a => bad a ∨ a = B) v d
  | .none, _, h => by cases h; exact .non
  | .bool b, _, h => by cases h; exact .bl b
  | .int i, _, h => by cases h; exact .int i
  | .str x, _, h => by cases h; exact .str x
  | .list ds, _, h => by
    cases h with
    | lst hs hb ha => exact .lst hs (fun z => z.elim hb (fun e => by subst e; rw [n] at hs; cases hs)) (repAll_fresh n ds _ ha)
  | .tuple ds, _, h => by
    cases h with
    | tup hs ha => exact .tup hs (repAll_fresh n ds _ ha)
  | .dict _, _, h => by
    cases h with
    | dct hs hf => exact .dct hs hf
theorem repAll_fresh {K : PySem.W.Frag} {bad : Addr → Prop} {H : Hp} {B : Addr} (n : H B = none) : ∀ (ds : List PyData) (vs : List V), RepAll K H bad vs ds → RepAll K H (fun a => bad a ∨ a = B) vs ds
  | [], _, h => by cases h; exact .nil
  | d :: ds, _, h => by
    cases h with
    | cons h1 h2 => exact .cons (rep_fresh n d _ h1) (repAll_fresh n ds _ h2)
end
theorem Same.some {H H' : Hp} (s : Same H H') {a : Addr} (h : H a ≠ none) : H' a ≠ none := by
  rcases hq : H a with _ | o
  · exact absurd hq h
  · rw [s a o hq]
    exact fun z => nomatch z
end OC
set_option Elab.async false
set_option linter.all false
set_option maxRecDepth 100000
set_option maxHeartbeats 2000000
/-! enumerate(t) of a tuple, in a for -/
set_option Elab.async false
set_option linter.all false
set_option maxRecDepth 100000
set_option maxHeartbeats 2000000
/-! sorted(xs, reverse=True) of tuples of as many rests each -/
/-! Linear algebra over Fin p, vectors as functions: spans, plain forms, their uniqueness. Core Lean alone. -/
namespace Lin
set_option linter.all false
section
variable {p : Nat} [NeZero p]
abbrev Vec (p : Nat) := Nat → Fin p
def zeroV : Vec p := fun _ => 0
def addV (x y : Vec p) : Vec p := fun i => x i + y i
def mulV (c : Fin p) (x : Vec p) : Vec p := fun i => c * x i
/-- closed under sums and multiples -/
structure Sub (S : Vec p → Prop) : Prop where
  zero : S zeroV
  add : ∀ {x y}, S x → S y → S (addV x y)
  mul : ∀ (c : Fin p) {x}, S x → S (mulV c x)
def lin : List (Fin p) → List (Vec p) → Vec p
  | f :: fs, v :: vs => addV (mulV f v) (lin fs vs)
  | _, _ => zeroV
def Spn (vs : List (Vec p)) (x : Vec p) : Prop := ∃ fs : List (Fin p), x = lin fs vs
theorem zero_add (x : Vec p) : addV zeroV x = x := by
  funext i
  show (0 : Fin p) + x i = x i
  grind
theorem lin_nil (vs : List (Vec p)) : lin [] vs = zeroV := by cases vs <;> rfl
theorem lin_nil' (fs : List (Fin p)) : lin fs ([] : List (Vec p)) = zeroV := by cases fs <;> rfl
def addF : List (Fin p) → List (Fin p) → List (Fin p)
  | f :: fs, g :: gs => (f + g) :: addF fs gs
  | [], gs => gs
  | fs, [] => fs
theorem lin_add : ∀ (vs : List (Vec p)) (fs gs : List (Fin p)), addV (lin fs vs) (lin gs vs) = lin (addF fs gs) vs
  | [], fs, gs => by
    rw [lin_nil', lin_nil', lin_nil', zero_add]
  | v :: vs, [], gs => by
    rw [lin_nil, zero_add]
    simp only [addF]
  | v :: vs, f :: fs, [] => by
    rw [lin_nil]
    simp only [addF]
    funext i
    show lin (f :: fs) (v :: vs) i + (0 : Fin p) = lin (f :: fs) (v :: vs) i
    grind
  | v :: vs, f :: fs, g :: gs => by
    have ih := lin_add vs fs gs
    simp only [addF, lin]
    rw [← ih]
    funext i
    show f * v i + lin fs vs i + (g * v i + lin gs vs i) = (f + g) * v i + (lin fs vs i + lin gs vs i)
    grind
theorem lin_mul (c : Fin p) : ∀ (vs : List (Vec p)) (fs : List (Fin p)), mulV c (lin fs vs) = lin (fs.map (c * ·)) vs
  | [], fs => by
    rw [lin_nil', lin_nil']
    funext i
    show c * (0 : Fin p) = 0
    grind
  | v :: vs, [] => by
    rw [List.map_nil, lin_nil]
    funext i
    show c * (0 : Fin p) = 0
    grind
  | v :: vs, f :: fs => by
    have ih := lin_mul c vs fs
    rw [List.map_cons]
    simp only [lin]
    rw [← ih]
    funext i
    show c * (f * v i + lin fs vs i) = c * f * v i + c * lin fs vs i
    grind
theorem spn_sub (vs : List (Vec p)) : Sub (Spn vs) where
  zero := ⟨[], (lin_nil vs).symm⟩
  add := by
    rintro x y ⟨fs, rfl⟩ ⟨gs, rfl⟩
    exact ⟨_, lin_add vs fs gs⟩
  mul := by
    rintro c x ⟨fs, rfl⟩
    exact ⟨_, lin_mul c vs fs⟩
theorem spn_tail {v : Vec p} {vs : List (Vec p)} {x : Vec p} (h : Spn vs x) : Spn (v :: vs) x := by
  obtain ⟨fs, rfl⟩ := h
  refine ⟨0 :: fs, ?_⟩
  funext i
  show lin fs vs i = 0 * v i + lin fs vs i
  grind
theorem spn_mem : ∀ {vs : List (Vec p)} {v : Vec p}, v ∈ vs → Spn vs v
  | w :: vs, v, h => by
    rcases List.mem_cons.mp h with rfl | h
    · refine ⟨[1], ?_⟩
      funext i
      show v i = 1 * v i + lin [] vs i
      rw [lin_nil]
      show v i = 1 * v i + (0 : Fin p)
      grind
    · exact spn_tail (spn_mem h)
theorem spn_le {S : Vec p → Prop} (hS : Sub S) : ∀ {vs : List (Vec p)}, (∀ v ∈ vs, S v) → ∀ {x}, Spn vs x → S x
  | [], _, x, ⟨fs, e⟩ => by
    rw [e, lin_nil']
    exact hS.zero
  | v :: vs, h, x, ⟨[], e⟩ => by
    rw [e, lin_nil]
    exact hS.zero
  | v :: vs, h, x, ⟨f :: fs, e⟩ => by
    rw [e]
    exact hS.add (hS.mul f (h v List.mem_cons_self)) (spn_le hS (fun w hw => h w (List.mem_cons_of_mem _ hw)) ⟨fs, rfl⟩)
theorem spn_sub_of {vs ws : List (Vec p)} (h : ∀ v ∈ vs, Spn ws v) {x : Vec p} (hx : Spn vs x) : Spn ws x := spn_le (spn_sub ws) h hx
theorem Sub.less {S : Vec p → Prop} (hS : Sub S) {x y : Vec p} (c : Fin p) (hx : S x) (hy : S y) : S (fun i => x i - c * y i) := by
  have h := hS.add hx (hS.mul (-c) hy)
  have e : addV x (mulV (-c) y) = fun i => x i - c * y i := by
    funext i
    show x i + -c * y i = x i - c * y i
    grind
  rw [e] at h
  exact h
/-! ### plain forms: pairs of a first place and a row -/
structure PF (n : Nat) (bs : List (Nat × Vec p)) : Prop where
  inc : bs.Pairwise (fun a b => a.1 < b.1)
  lt : ∀ b ∈ bs, b.1 < n
  one : ∀ b ∈ bs, b.2 b.1 = 1
  low : ∀ b ∈ bs, ∀ i, i < b.1 → b.2 i = 0
  off : ∀ b ∈ bs, ∀ c ∈ bs, b.1 ≠ c.1 → b.2 c.1 = 0
  wid : ∀ b ∈ bs, ∀ i, n ≤ i → b.2 i = 0
/-- the part of x that the rows tell by its rests at their first places -/
def red : List (Nat × Vec p) → Vec p → Vec p
  | [], _ => zeroV
  | b :: bs, x => addV (mulV (x b.1) b.2) (red bs x)
theorem red_add : ∀ (bs : List (Nat × Vec p)) (x y : Vec p), red bs (addV x y) = addV (red bs x) (red bs y)
  | [], x, y => by simp only [red]; rw [zero_add]
  | b :: bs, x, y => by
    simp only [red]
    rw [red_add bs x y]
    funext i
    show (x b.1 + y b.1) * b.2 i + (red bs x i + red bs y i) = x b.1 * b.2 i + red bs x i + (y b.1 * b.2 i + red bs y i)
    grind
theorem red_mul (c : Fin p) : ∀ (bs : List (Nat × Vec p)) (x : Vec p), red bs (mulV c x) = mulV c (red bs x)
  | [], x => by
    simp only [red]
    funext i
    show (0 : Fin p) = c * 0
    grind
  | b :: bs, x => by
    simp only [red]
    rw [red_mul c bs x]
    funext i
    show c * x b.1 * b.2 i + c * red bs x i = c * (x b.1 * b.2 i + red bs x i)
    grind
theorem red_zero (bs : List (Nat × Vec p)) : red bs zeroV = zeroV := by
  have h := red_mul (0 : Fin p) bs zeroV
  have e : mulV (0 : Fin p) (zeroV : Vec p) = zeroV := by
    funext i
    show (0 : Fin p) * 0 = 0
    grind
  rw [e] at h
  rw [h]
  funext i
  show (0 : Fin p) * red bs zeroV i = 0
  grind
theorem red_none : ∀ (l : List (Nat × Vec p)) (x : Vec p), (∀ b ∈ l, x b.1 = 0) → red l x = zeroV
  | [], _, _ => rfl
  | b :: l, x, h => by
    simp only [red]
    rw [red_none l x fun c hc => h c (List.mem_cons_of_mem _ hc), h b List.mem_cons_self]
    funext i
    show (0 : Fin p) * b.2 i + 0 = 0
    grind
theorem red_one : ∀ (l : List (Nat × Vec p)) (b : Nat × Vec p), b ∈ l → l.Pairwise (fun a c => a.1 < c.1) → b.2 b.1 = 1 → (∀ c ∈ l, b.1 ≠ c.1 → b.2 c.1 = 0) → red l b.2 = b.2
  | a :: l, b, hb, inc, h1, h0 => by
    have inc' := List.pairwise_cons.mp inc
    simp only [red]
    rcases List.mem_cons.mp hb with rfl | hb
    · rw [red_none l b.2 fun c hc => h0 c (List.mem_cons_of_mem _ hc) (Nat.ne_of_lt (inc'.1 c hc)), h1]
      funext i
      show (1 : Fin p) * b.2 i + 0 = b.2 i
      grind
    · rw [red_one l b hb inc'.2 h1 fun c hc => h0 c (List.mem_cons_of_mem _ hc), h0 a List.mem_cons_self (Nat.ne_of_gt (inc'.1 b hb))]
      funext i
      show (0 : Fin p) * a.2 i + b.2 i = b.2 i
      grind
/-- a row of the room is told by its rests at the first places -/
theorem PF.told {n : Nat} {bs : List (Nat × Vec p)} (h : PF n bs) {x : Vec p} (hx : Spn (bs.map (·.2)) x) : red bs x = x := by
  have hS : Sub (fun x : Vec p => red bs x = x) := by
    refine ⟨red_zero bs, fun {x y} hx hy => ?_, fun c {x} hx => ?_⟩
    · show red bs (addV x y) = addV x y
      rw [red_add, hx, hy]
    · show red bs (mulV c x) = mulV c x
      rw [red_mul, hx]
  refine spn_le hS (fun v hv => ?_) hx
  obtain ⟨b, hb, rfl⟩ := List.mem_map.mp hv
  exact red_one bs b hb h.inc (h.one b hb) fun c hc ne => h.off b hb c hc ne
/-- a first place of a row -/
def Lead (x : Vec p) (j : Nat) : Prop := x j ≠ 0 ∧ ∀ i, i < j → x i = 0
theorem red_low : ∀ (l : List (Nat × Vec p)) (x : Vec p) (j : Nat), (∀ i, i < j → x i = 0) → (∀ b ∈ l, b.1 ≠ j) → (∀ b ∈ l, ∀ i, i < b.1 → b.2 i = 0) → red l x j = 0
  | [], _, _, _, _, _ => rfl
  | b :: l, x, j, hx, hn, hl => by
    have ih := red_low l x j hx (fun c hc => hn c (List.mem_cons_of_mem _ hc)) fun c hc => hl c (List.mem_cons_of_mem _ hc)
    show x b.1 * b.2 j + red l x j = 0
    rw [ih]
    rcases Nat.lt_or_ge b.1 j with h | h
    · rw [hx b.1 h]
      grind
    · have h2 : j < b.1 := Nat.lt_of_le_of_ne h (Ne.symm (hn b List.mem_cons_self))
      rw [hl b List.mem_cons_self j h2]
      grind
theorem PF.lead {n : Nat} {bs : List (Nat × Vec p)} (h : PF n bs) {x : Vec p} {j : Nat} (hx : Spn (bs.map (·.2)) x) (hj : Lead x j) : ∃ b ∈ bs, b.1 = j := by
  apply Classical.byContradiction
  intro hn
  have e := h.told hx
  apply hj.1
  rw [← e]
  exact red_low bs x j hj.2 (fun b hb e => hn ⟨b, hb, e⟩) h.low
theorem PF.leads {n : Nat} {bs : List (Nat × Vec p)} (h : PF n bs) (h1 : (1 : Fin p) ≠ 0) {b : Nat × Vec p} (hb : b ∈ bs) : Lead b.2 b.1 := ⟨by rw [h.one b hb]; exact h1, h.low b hb⟩
theorem sorted_eq : ∀ {l m : List Nat}, l.Pairwise (· < ·) → m.Pairwise (· < ·) → (∀ x, x ∈ l ↔ x ∈ m) → l = m
  | [], [], _, _, _ => rfl
  | [], b :: m, _, _, h => by simpa using (h b).mpr List.mem_cons_self
  | a :: l, [], _, _, h => by simpa using (h a).mp List.mem_cons_self
  | a :: l, b :: m, hl, hm, h => by
    have hl' := List.pairwise_cons.mp hl
    have hm' := List.pairwise_cons.mp hm
    have e : a = b := by
      rcases List.mem_cons.mp ((h a).mp List.mem_cons_self) with e | e
      · exact e
      · rcases List.mem_cons.mp ((h b).mpr List.mem_cons_self) with e2 | e2
        · exact e2.symm
        · have := hm'.1 a e
          have := hl'.1 b e2
          omega
    subst e
    congr 1
    refine sorted_eq hl'.2 hm'.2 fun x => ⟨fun hx => ?_, fun hx => ?_⟩
    · rcases List.mem_cons.mp ((h x).mp (List.mem_cons_of_mem _ hx)) with e | e
      · have := hl'.1 x hx
        omega
      · exact e
    · rcases List.mem_cons.mp ((h x).mpr (List.mem_cons_of_mem _ hx)) with e | e
      · have := hm'.1 x hx
        omega
      · exact e
theorem pairs_eq : ∀ {bs cs : List (Nat × Vec p)}, bs.map (·.1) = cs.map (·.1) → (∀ b ∈ bs, ∀ c ∈ cs, b.1 = c.1 → b.2 = c.2) → bs = cs
  | [], [], _, _ => rfl
  | [], _ :: _, e, _ => by cases e
  | _ :: _, [], e, _ => by cases e
  | b :: bs, c :: cs, e, h => by
    rw [List.map_cons, List.map_cons] at e
    have e1 : b.1 = c.1 := (List.cons.inj e).1
    have e2 := h b List.mem_cons_self c List.mem_cons_self e1
    have e3 : b = c := by
      cases b
      cases c
      simp only at e1 e2
      rw [e1, e2]
    rw [e3, pairs_eq (List.cons.inj e).2 fun x hx y hy => h x (List.mem_cons_of_mem _ hx) y (List.mem_cons_of_mem _ hy)]
/-- each room has just one plain form -/
theorem PF.uniq {n m : Nat} {bs cs : List (Nat × Vec p)} (h1 : (1 : Fin p) ≠ 0) (hb : PF n bs) (hc : PF m cs) (h : ∀ x, Spn (bs.map (·.2)) x ↔ Spn (cs.map (·.2)) x) : bs = cs := by
  have inB : ∀ b ∈ bs, ∃ c ∈ cs, c.1 = b.1 := fun b m => hc.lead ((h _).mp (spn_mem (List.mem_map_of_mem m))) (hb.leads h1 m)
  have inC : ∀ c ∈ cs, ∃ b ∈ bs, b.1 = c.1 := fun c m => hb.lead ((h _).mpr (spn_mem (List.mem_map_of_mem m))) (hc.leads h1 m)
  have ef : bs.map (·.1) = cs.map (·.1) := by
    refine sorted_eq ?_ ?_ fun x => ⟨fun hx => ?_, fun hx => ?_⟩
    · exact List.pairwise_map.mpr hb.inc
    · exact List.pairwise_map.mpr hc.inc
    · obtain ⟨b, m, rfl⟩ := List.mem_map.mp hx
      obtain ⟨c, m', e⟩ := inB b m
      exact List.mem_map.mpr ⟨c, m', e⟩
    · obtain ⟨c, m, rfl⟩ := List.mem_map.mp hx
      obtain ⟨b, m', e⟩ := inC c m
      exact List.mem_map.mpr ⟨b, m', e⟩
  refine pairs_eq ef fun b mb c mc e => ?_
  have hx : Spn (cs.map (·.2)) b.2 := (h _).mp (spn_mem (List.mem_map_of_mem mb))
  have t := hc.told hx
  rw [← t]
  -- b's rests at the first places of cs are those of c
  have key : ∀ l : List (Nat × Vec p), (∀ d ∈ l, b.2 d.1 = c.2 d.1) → red l b.2 = red l c.2 := by
    intro l
    induction l with
    | nil => intro _; rfl
    | cons d l ih =>
      intro hd
      simp only [red]
      rw [hd d List.mem_cons_self, ih fun x hx => hd x (List.mem_cons_of_mem _ hx)]
  rw [key cs fun d md => ?_]
  · exact red_one cs c mc hc.inc (hc.one c mc) fun d md ne => hc.off c mc d md ne
  · by_cases ne : b.1 = d.1
    · rw [← ne, hb.one b mb, e, hc.one c mc]
    · obtain ⟨b', mb', e'⟩ := inC d md
      rw [← e', hb.off b mb b' mb' (by rw [e']; exact ne), e', hc.off c mc d md (by rw [← e]; exact ne)]
theorem red_at : ∀ (l : List (Nat × Vec p)) (x : Vec p) (c : Nat × Vec p), c ∈ l → l.Pairwise (fun a b => a.1 < b.1) → c.2 c.1 = 1 → (∀ b ∈ l, b.1 ≠ c.1 → b.2 c.1 = 0) → red l x c.1 = x c.1
  | a :: l, x, c, hc, inc, h1, h0 => by
    have inc' := List.pairwise_cons.mp inc
    show x a.1 * a.2 c.1 + red l x c.1 = x c.1
    rcases List.mem_cons.mp hc with rfl | hc
    · have z : ∀ m : List (Nat × Vec p), (∀ b ∈ m, b.2 c.1 = 0) → red m x c.1 = 0 := by
        intro m
        induction m with
        | nil => intro _; rfl
        | cons b m ih =>
          intro hm
          show x b.1 * b.2 c.1 + red m x c.1 = 0
          rw [hm b List.mem_cons_self, ih fun y hy => hm y (List.mem_cons_of_mem _ hy)]
          grind
      rw [z l fun b hb => h0 b (List.mem_cons_of_mem _ hb) (Nat.ne_of_gt (inc'.1 b hb)), h1]
      grind
    · rw [red_at l x c hc inc'.2 h1 fun b hb => h0 b (List.mem_cons_of_mem _ hb), h0 a List.mem_cons_self (Nat.ne_of_lt (inc'.1 c hc))]
      grind
theorem PF.at {n : Nat} {bs : List (Nat × Vec p)} (h : PF n bs) (x : Vec p) {c : Nat × Vec p} (hc : c ∈ bs) : red bs x c.1 = x c.1 :=
  red_at bs x c hc h.inc (h.one c hc) fun b hb ne => h.off b hb c hc ne
theorem sorted_len : ∀ {l m : List Nat}, l.Pairwise (· < ·) → m.Pairwise (· < ·) → (∀ x ∈ l, x ∈ m) → l.length ≤ m.length ∧ (m.length ≤ l.length → ∀ x ∈ m, x ∈ l)
  | [], m, _, _, _ => ⟨Nat.zero_le _, fun h x hx => by
      cases m with
      | nil => exact hx
      | cons a b => simp at h⟩
  | a :: l, [], _, _, h => by simpa using h a List.mem_cons_self
  | a :: l, b :: m, hl, hm, h => by
    have hl' := List.pairwise_cons.mp hl
    have hm' := List.pairwise_cons.mp hm
    by_cases e : a = b
    · subst e
      have ih := sorted_len hl'.2 hm'.2 fun x hx => by
        rcases List.mem_cons.mp (h x (List.mem_cons_of_mem _ hx)) with e | e
        · have := hl'.1 x hx
          omega
        · exact e
      refine ⟨by simpa using ih.1, fun hle x hx => ?_⟩
      rcases List.mem_cons.mp hx with rfl | hx
      · exact List.mem_cons_self
      · exact List.mem_cons_of_mem _ (ih.2 (by simpa using hle) x hx)
    · have ha : a ∈ m := by
        rcases List.mem_cons.mp (h a List.mem_cons_self) with z | z
        · exact absurd z e
        · exact z
      have ih := sorted_len (l := a :: l) hl hm'.2 fun x hx => by
        rcases List.mem_cons.mp (h x hx) with z | z
        · rcases List.mem_cons.mp hx with y | y
          · omega
          · have := hl'.1 x y
            have := hm'.1 a ha
            omega
        · exact z
      refine ⟨Nat.le_succ_of_le ih.1, fun hle => ?_⟩
      have := ih.1
      simp only [List.length_cons] at this hle
      omega
theorem PF.firsts_sub {n m : Nat} {bs cs : List (Nat × Vec p)} (hb : PF n bs) (hc : PF m cs) (h1 : (1 : Fin p) ≠ 0) (h : ∀ x, Spn (bs.map (·.2)) x → Spn (cs.map (·.2)) x) : ∀ j ∈ bs.map (·.1), j ∈ cs.map (·.1) := by
  intro j hj
  obtain ⟨b, mb, rfl⟩ := List.mem_map.mp hj
  obtain ⟨c, mc, e⟩ := hc.lead (h _ (spn_mem (List.mem_map_of_mem mb))) (hb.leads h1 mb)
  exact List.mem_map.mpr ⟨c, mc, e⟩
theorem PF.len_le {n m : Nat} {bs cs : List (Nat × Vec p)} (hb : PF n bs) (hc : PF m cs) (h1 : (1 : Fin p) ≠ 0) (h : ∀ x, Spn (bs.map (·.2)) x → Spn (cs.map (·.2)) x) : bs.length ≤ cs.length := by
  have := (sorted_len (List.pairwise_map.mpr hb.inc) (List.pairwise_map.mpr hc.inc) (hb.firsts_sub hc h1 h)).1
  rw [List.length_map, List.length_map] at this
  exact this
/-! ### taking off, place by place -/
variable (inv : Fin p → Fin p)
def lessV (x own : Vec p) (j : Nat) : Vec p := fun i => x i - x j * own i
def ownV (a : Vec p) (j : Nat) : Vec p := mulV (inv (a j)) a
def stepV (st : List (Vec p) × List (Nat × Vec p)) (k : Nat) : List (Vec p) × List (Nat × Vec p) :=
  match st.1.filter (fun x => decide (x k ≠ 0)) with
  | [] => st
  | a :: _ => (st.1.map fun x => lessV x (ownV inv a k) k, (st.2.map fun b => (b.1, lessV b.2 (ownV inv a k) k)) ++ [(k, ownV inv a k)])
def plainV (n : Nat) (vs : List (Vec p)) : List (Nat × Vec p) := ((List.range n).foldl (stepV inv) (vs, [])).2
structure StepOk (n k : Nat) (vs : List (Vec p)) (st : List (Vec p) × List (Nat × Vec p)) : Prop where
  low : ∀ x ∈ st.1, ∀ i, i < k → x i = 0
  wid : ∀ x ∈ st.1, ∀ i, n ≤ i → x i = 0
  pf : PF n st.2
  below : ∀ b ∈ st.2, b.1 < k
  to : ∀ x, Spn (st.1 ++ st.2.map (·.2)) x → Spn vs x
  from_ : ∀ x, Spn vs x → Spn (st.1 ++ st.2.map (·.2)) x
theorem filter_head {α : Type} {q : α → Bool} {l : List α} {a : α} {r : List α} (h : l.filter q = a :: r) : a ∈ l ∧ q a = true := by
  have : a ∈ l.filter q := by rw [h]; exact List.mem_cons_self
  exact List.mem_filter.mp this
theorem step_ok {n k : Nat} {vs : List (Vec p)} {st : List (Vec p) × List (Nat × Vec p)} (hinv : ∀ a : Fin p, a ≠ 0 → inv a * a = 1) (hk : k < n) (h : StepOk n k vs st) : StepOk n (k + 1) vs (stepV inv st k) := by
  unfold stepV
  split
  · rename_i hf
    refine ⟨fun x hx i hi => ?_, h.wid, h.pf, fun b hb => Nat.lt_succ_of_lt (h.below b hb), h.to, h.from_⟩
    by_cases e : i = k
    · subst e
      apply Classical.byContradiction
      intro hne
      have : x ∈ st.1.filter (fun x => decide (x i ≠ 0)) := List.mem_filter.mpr ⟨hx, decide_eq_true hne⟩
      rw [hf] at this
      cases this
    · exact h.low x hx i (by omega)
  · rename_i a r hf
    obtain ⟨ha, hq⟩ := filter_head hf
    have hak : a k ≠ 0 := of_decide_eq_true hq
    have ok1 : ownV inv a k k = 1 := hinv _ hak
    have okl : ∀ i, i < k → ownV inv a k i = 0 := fun i hi => by
      show inv (a k) * a i = 0
      rw [h.low a ha i hi]
      grind
    have okw : ∀ i, n ≤ i → ownV inv a k i = 0 := fun i hi => by
      show inv (a k) * a i = 0
      rw [h.wid a ha i hi]
      grind
    have less_k : ∀ x : Vec p, lessV x (ownV inv a k) k k = 0 := fun x => by
      show x k - x k * ownV inv a k k = 0
      rw [ok1]
      grind
    have less_lt : ∀ (x : Vec p) i, i < k → lessV x (ownV inv a k) k i = x i := fun x i hi => by
      show x i - x k * ownV inv a k i = x i
      rw [okl i hi]
      grind
    have less_w : ∀ (x : Vec p) i, n ≤ i → x i = 0 → lessV x (ownV inv a k) k i = 0 := fun x i hi hx => by
      show x i - x k * ownV inv a k i = 0
      rw [okw i hi, hx]
      grind
    have own_in : Spn (st.1 ++ st.2.map (·.2)) (ownV inv a k) := (spn_sub _).mul _ (spn_mem (List.mem_append_left _ ha))
    generalize ownV inv a k = own at *
    refine ⟨?_, ?_, ⟨?_, ?_, ?_, ?_, ?_, ?_⟩, ?_, ?_, ?_⟩
    · intro x hx i hi
      obtain ⟨y, my, rfl⟩ := List.mem_map.mp hx
      by_cases e : i = k
      · subst e
        exact less_k y
      · rw [less_lt y i (by omega)]
        exact h.low y my i (by omega)
    · intro x hx i hi
      obtain ⟨y, my, rfl⟩ := List.mem_map.mp hx
      exact less_w y i hi (h.wid y my i hi)
    · refine List.pairwise_append.mpr ⟨?_, List.pairwise_singleton _ _, fun b hb c hc => ?_⟩
      · exact List.pairwise_map.mpr h.pf.inc
      · obtain ⟨b', mb, rfl⟩ := List.mem_map.mp hb
        have : c = (k, own) := by simpa using hc
        subst this
        exact h.below b' mb
    · intro b hb
      rcases List.mem_append.mp hb with hb | hb
      · obtain ⟨b', mb, rfl⟩ := List.mem_map.mp hb
        exact h.pf.lt b' mb
      · have : b = (k, own) := by simpa using hb
        subst this
        exact hk
    · intro b hb
      rcases List.mem_append.mp hb with hb | hb
      · obtain ⟨b', mb, rfl⟩ := List.mem_map.mp hb
        show lessV b'.2 own k b'.1 = 1
        rw [less_lt _ _ (h.below b' mb)]
        exact h.pf.one b' mb
      · have : b = (k, own) := by simpa using hb
        subst this
        exact ok1
    · intro b hb i hi
      rcases List.mem_append.mp hb with hb | hb
      · obtain ⟨b', mb, rfl⟩ := List.mem_map.mp hb
        have hi : i < b'.1 := hi
        show lessV b'.2 own k i = 0
        rw [less_lt _ _ (Nat.lt_trans hi (h.below b' mb))]
        exact h.pf.low b' mb i hi
      · have : b = (k, own) := by simpa using hb
        subst this
        exact okl i hi
    · intro b hb c hc ne
      rcases List.mem_append.mp hb with hb | hb
      · obtain ⟨b', mb, rfl⟩ := List.mem_map.mp hb
        rcases List.mem_append.mp hc with hc | hc
        · obtain ⟨c', mc, rfl⟩ := List.mem_map.mp hc
          show lessV b'.2 own k c'.1 = 0
          rw [less_lt _ _ (h.below c' mc)]
          exact h.pf.off b' mb c' mc ne
        · have : c = (k, own) := by simpa using hc
          subst this
          exact less_k b'.2
      · have : b = (k, own) := by simpa using hb
        subst this
        rcases List.mem_append.mp hc with hc | hc
        · obtain ⟨c', mc, rfl⟩ := List.mem_map.mp hc
          exact okl c'.1 (h.below c' mc)
        · have : c = (k, own) := by simpa using hc
          subst this
          exact absurd rfl ne
    · intro b hb i hi
      rcases List.mem_append.mp hb with hb | hb
      · obtain ⟨b', mb, rfl⟩ := List.mem_map.mp hb
        exact less_w b'.2 i hi (h.pf.wid b' mb i hi)
      · have : b = (k, own) := by simpa using hb
        subst this
        exact okw i hi
    · intro b hb
      rcases List.mem_append.mp hb with hb | hb
      · obtain ⟨b', mb, rfl⟩ := List.mem_map.mp hb
        exact Nat.lt_succ_of_lt (h.below b' mb)
      · have : b = (k, own) := by simpa using hb
        subst this
        exact Nat.lt_succ_self k
    · intro x hx
      refine h.to x (spn_sub_of (fun v hv => ?_) hx)
      rcases List.mem_append.mp hv with hv | hv
      · obtain ⟨y, my, rfl⟩ := List.mem_map.mp hv
        exact (spn_sub _).less (y k) (spn_mem (List.mem_append_left _ my)) own_in
      · obtain ⟨b, mb, rfl⟩ := List.mem_map.mp hv
        rcases List.mem_append.mp mb with mb | mb
        · obtain ⟨b', mb', rfl⟩ := List.mem_map.mp mb
          exact (spn_sub _).less (b'.2 k) (spn_mem (List.mem_append_right _ (List.mem_map_of_mem mb'))) own_in
        · have : b = (k, own) := by simpa using mb
          subst this
          exact own_in
    · intro x hx
      have own_in' : Spn (st.1.map (fun x => lessV x own k) ++ ((st.2.map fun b => (b.1, lessV b.2 own k)) ++ [(k, own)]).map (·.2)) own := spn_mem (by simp)
      have back : ∀ y : Vec p, Spn (st.1.map (fun x => lessV x own k) ++ ((st.2.map fun b => (b.1, lessV b.2 own k)) ++ [(k, own)]).map (·.2)) (lessV y own k) → Spn (st.1.map (fun x => lessV x own k) ++ ((st.2.map fun b => (b.1, lessV b.2 own k)) ++ [(k, own)]).map (·.2)) y := by
        intro y hy
        have := (spn_sub _).add hy ((spn_sub _).mul (y k) own_in')
        have e : addV (lessV y own k) (mulV (y k) own) = y := by
          funext i
          show y i - y k * own i + y k * own i = y i
          grind
        rw [e] at this
        exact this
      refine spn_sub_of (fun v hv => ?_) (h.from_ x hx)
      rcases List.mem_append.mp hv with hv | hv
      · exact back v (spn_mem (List.mem_append_left _ (List.mem_map_of_mem hv)))
      · obtain ⟨b, mb, rfl⟩ := List.mem_map.mp hv
        refine back b.2 (spn_mem (List.mem_append_right _ ?_))
        refine List.mem_map.mpr ⟨(b.1, lessV b.2 own k), List.mem_append_left _ (List.mem_map.mpr ⟨b, mb, rfl⟩), rfl⟩
theorem steps_ok {n : Nat} {vs : List (Vec p)} (hinv : ∀ a : Fin p, a ≠ 0 → inv a * a = 1) (hw : ∀ x ∈ vs, ∀ i, n ≤ i → x i = 0) : ∀ k, k ≤ n → StepOk n k vs ((List.range k).foldl (stepV inv) (vs, []))
  | 0, _ => by
    refine ⟨fun x _ i hi => absurd hi (Nat.not_lt_zero i), hw, ⟨.nil, fun b h => (nomatch h), fun b h => (nomatch h), fun b h => (nomatch h), fun b h => (nomatch h), fun b h => (nomatch h)⟩, fun b h => (nomatch h), fun x hx => ?_, fun x hx => ?_⟩
    · simpa using hx
    · simpa using hx
  | k + 1, hk => by
    rw [List.range_succ, List.foldl_append]
    exact step_ok inv hinv (by omega) (steps_ok hinv hw k (by omega))
/-- taking off, place by place, tells the plain form of what the rows make -/
theorem plainV_pf {n : Nat} {vs : List (Vec p)} (hinv : ∀ a : Fin p, a ≠ 0 → inv a * a = 1) (hw : ∀ x ∈ vs, ∀ i, n ≤ i → x i = 0) : PF n (plainV inv n vs) := (steps_ok inv hinv hw n (Nat.le_refl n)).pf
theorem plainV_spn {n : Nat} {vs : List (Vec p)} (hinv : ∀ a : Fin p, a ≠ 0 → inv a * a = 1) (hw : ∀ x ∈ vs, ∀ i, n ≤ i → x i = 0) (x : Vec p) : Spn ((plainV inv n vs).map (·.2)) x ↔ Spn vs x := by
  have h := steps_ok inv hinv hw n (Nat.le_refl n)
  constructor
  · intro hx
    refine h.to x (spn_sub_of (fun v hv => spn_mem (List.mem_append_right _ hv)) hx)
  · intro hx
    refine spn_sub_of (fun v hv => ?_) (h.from_ x hx)
    rcases List.mem_append.mp hv with hv | hv
    · have e : v = zeroV := by
        funext i
        rcases Nat.lt_or_ge i n with hi | hi
        · exact h.low v hv i hi
        · exact h.wid v hv i hi
      rw [e]
      exact (spn_sub _).zero
    · exact spn_mem hv
theorem plainV_len_le {n : Nat} {vs ws : List (Vec p)} (h1 : (1 : Fin p) ≠ 0) (hinv : ∀ a : Fin p, a ≠ 0 → inv a * a = 1) (hv : ∀ x ∈ vs, ∀ i, n ≤ i → x i = 0) (hw : ∀ x ∈ ws, ∀ i, n ≤ i → x i = 0) (h : ∀ x, Spn vs x → Spn ws x) : (plainV inv n vs).length ≤ (plainV inv n ws).length :=
  (plainV_pf inv hinv hv).len_le (plainV_pf inv hinv hw) h1 fun x hx => (plainV_spn inv hinv hw x).mpr (h x ((plainV_spn inv hinv hv x).mp hx))
end
end Lin
/-! rows of ints mod p as vectors; the law's own taking off -/
namespace OC
set_option linter.all false
open Lin
def ctr (p a : Int) : Int := (((List.range p.toNat).map fun (b : Nat) => (b : Int)).filter fun b => decide (a * b % p = 1)).headD 0
def lessR (p : Int) (x y : List Int) (j : Nat) : List Int := List.zipWith (fun r m => (r - x.getD j 0 * m) % p) x y
def ownR (p : Int) (a : List Int) (j : Nat) : List Int := a.map fun r => ctr p (a.getD j 0) * r % p
def stepR (p : Int) (st : List (List Int) × List (List Int)) (k : Nat) : List (List Int) × List (List Int) :=
  match st.1.filter (fun r => decide (r.getD k 0 ≠ 0)) with
  | [] => st
  | a :: _ => (st.1.map fun r => lessR p r (ownR p a k) k, (st.2.map fun r => lessR p r (ownR p a k) k) ++ [ownR p a k])
def plainR (p : Int) (n : Nat) (rows : List (List Int)) : List (List Int) := ((List.range n).foldl (stepR p) (rows, [])).2
/-- each rest but 0 has a contrary one -/
def Fld (p : Int) : Prop := 2 ≤ p ∧ ∀ a : Int, 1 ≤ a → a < p → ∃ b : Int, 1 ≤ b ∧ b < p ∧ a * b % p = 1
theorem ctr_ok {p a : Int} (h : Fld p) (h0 : 1 ≤ a) (h1 : a < p) : 0 ≤ ctr p a ∧ ctr p a < p ∧ a * ctr p a % p = 1 := by
  obtain ⟨b, b1, b2, b3⟩ := h.2 a h0 h1
  unfold ctr
  generalize hl : ((List.range p.toNat).map fun (b : Nat) => (b : Int)).filter (fun b => decide (a * b % p = 1)) = l
  have mem : ∀ x ∈ l, 0 ≤ x ∧ x < p ∧ a * x % p = 1 := by
    intro x hx
    rw [← hl] at hx
    obtain ⟨hx, hq⟩ := List.mem_filter.mp hx
    obtain ⟨i, hi, rfl⟩ := List.mem_map.mp hx
    have := List.mem_range.mp hi
    exact ⟨by omega, by omega, of_decide_eq_true hq⟩
  cases l with
  | nil =>
    have : b ∈ ((List.range p.toNat).map fun (b : Nat) => (b : Int)).filter (fun b => decide (a * b % p = 1)) := List.mem_filter.mpr ⟨List.mem_map.mpr ⟨b.toNat, List.mem_range.mpr (by omega), by omega⟩, decide_eq_true b3⟩
    rw [hl] at this
    cases this
  | cons x r => exact mem x List.mem_cons_self
theorem gd_lt {r : List Int} {i : Nat} (h : i < r.length) : r.getD i 0 = r[i] := by
  rw [List.getD_eq_getElem?_getD, List.getElem?_eq_getElem h]
  rfl
theorem gd_ge {r : List Int} {i : Nat} (h : r.length ≤ i) : r.getD i 0 = 0 := by
  rw [List.getD_eq_getElem?_getD, List.getElem?_eq_none h]
  rfl
section
variable {q : Nat} [NeZero q]
theorem q_pos : (0 : Int) < q := by
  have := Nat.pos_of_ne_zero (NeZero.ne q)
  omega
def cF (x : Int) : Fin q := ⟨(x % q).toNat, by
  have h1 := Int.emod_lt_of_pos x (q_pos (q := q))
  have h2 := Int.emod_nonneg x (show (q : Int) ≠ 0 by have := q_pos (q := q); omega)
  omega⟩
theorem cF_val (x : Int) : ((cF (q := q) x).val : Int) = x % q := by
  show (((x % q).toNat : Nat) : Int) = x % q
  exact Int.toNat_of_nonneg (Int.emod_nonneg x (by have := q_pos (q := q); omega))
theorem fin_ext_int {a b : Fin q} (h : (a.val : Int) = (b.val : Int)) : a = b := Fin.ext (by omega)
theorem cF_add (x y : Int) : cF (q := q) (x + y) = cF x + cF y := by
  apply fin_ext_int
  rw [cF_val, Fin.val_add, Int.natCast_emod, Int.natCast_add, cF_val, cF_val, ← Int.add_emod]
theorem cF_mul (x y : Int) : cF (q := q) (x * y) = cF x * cF y := by
  apply fin_ext_int
  rw [cF_val, Fin.val_mul, Int.natCast_emod, Int.natCast_mul, cF_val, cF_val, ← Int.mul_emod]
theorem cF_mod (x : Int) : cF (q := q) (x % q) = cF x := by
  apply fin_ext_int
  rw [cF_val, cF_val, Int.emod_emod]
theorem cF_zero : cF (q := q) 0 = 0 := by
  have h := cF_add (q := q) 0 0
  rw [Int.add_zero] at h
  grind
theorem cF_sub (x y : Int) : cF (q := q) (x - y) = cF x - cF y := by
  have h := cF_add (q := q) (x - y) y
  rw [Int.sub_add_cancel] at h
  grind
theorem cF_inj {x y : Int} (hx : 0 ≤ x ∧ x < q) (hy : 0 ≤ y ∧ y < q) (h : cF (q := q) x = cF y) : x = y := by
  have h1 := congrArg (fun a : Fin q => (a.val : Int)) h
  simp only [cF_val] at h1
  rw [Int.emod_eq_of_lt hx.1 hx.2, Int.emod_eq_of_lt hy.1 hy.2] at h1
  exact h1
theorem cF_ne {x : Int} (hx : 0 ≤ x ∧ x < q) : cF (q := q) x ≠ 0 ↔ x ≠ 0 := by
  constructor
  · intro h e
    rw [e] at h
    exact h cF_zero
  · intro h e
    rw [← cF_zero] at e
    exact h (cF_inj hx ⟨by omega, by omega⟩ e)
theorem cF_one (h : 2 ≤ q) : cF (q := q) 1 = 1 := by
  apply fin_ext_int
  rw [cF_val, Int.emod_eq_of_lt (by omega) (by omega)]
  have : (1 : Fin q).val = 1 % q := rfl
  rw [this, Nat.mod_eq_of_lt (by omega)]
  rfl
theorem one_ne (h : 2 ≤ q) : (1 : Fin q) ≠ 0 := by
  rw [← cF_one h]
  exact (cF_ne ⟨by omega, by omega⟩).mpr (by omega)
/-- a row as a vector -/
def toV (r : List Int) : Vec q := fun i => cF (r.getD i 0)
def RowsOk (p : Int) (n : Nat) (rows : List (List Int)) : Prop := ∀ r ∈ rows, r.length = n ∧ ∀ x ∈ r, 0 ≤ x ∧ x < p
def invF (f : Fin q) : Fin q := cF (ctr q (f.val : Int))
theorem invF_ok (h : Fld (q : Int)) : ∀ a : Fin q, a ≠ 0 → invF a * a = 1 := by
  intro a ha
  have hv : 1 ≤ (a.val : Int) := by
    have : a.val ≠ 0 := fun e => ha (Fin.ext (by rw [e]; rfl))
    omega
  obtain ⟨_, _, h3⟩ := ctr_ok h hv (by have := a.isLt; omega)
  have e : a = cF (q := q) (a.val : Int) := by
    apply fin_ext_int
    rw [cF_val, Int.emod_eq_of_lt (by omega) (by have := a.isLt; omega)]
  have h2 : (2 : Int) ≤ q := h.1
  show cF (ctr q (a.val : Int)) * a = 1
  rw [show cF (q := q) (ctr q (a.val : Int)) * a = cF (ctr q (a.val : Int)) * cF (a.val : Int) by rw [← e], ← cF_mul, ← cF_mod, Int.mul_comm, h3, cF_one (by omega)]
theorem getD_lt {r : List Int} {p : Int} (hp : 0 < p) (h : ∀ x ∈ r, 0 ≤ x ∧ x < p) (i : Nat) : 0 ≤ r.getD i 0 ∧ r.getD i 0 < p := by
  by_cases hi : i < r.length
  · rw [gd_lt hi]
    exact h _ (List.getElem_mem hi)
  · rw [gd_ge (by omega)]
    omega
theorem toV_wid {r : List Int} {n : Nat} (h : r.length = n) (i : Nat) (hi : n ≤ i) : toV (q := q) r i = 0 := by
  show cF (r.getD i 0) = 0
  rw [gd_ge (by omega), cF_zero]
theorem toV_inj {x y : List Int} (hl : x.length = y.length) (hx : ∀ v ∈ x, 0 ≤ v ∧ v < (q : Int)) (hy : ∀ v ∈ y, 0 ≤ v ∧ v < (q : Int)) (h : toV (q := q) x = toV y) : x = y := by
  apply List.ext_getElem hl
  intro i h1 h2
  have e := congrFun h i
  have e : cF (q := q) (x.getD i 0) = cF (y.getD i 0) := e
  rw [gd_lt h1, gd_lt h2] at e
  exact cF_inj (hx _ (List.getElem_mem h1)) (hy _ (List.getElem_mem h2)) e
theorem getD_zipWith (f : Int → Int → Int) {x y : List Int} (h : x.length = y.length) {i : Nat} (hi : i < x.length) : (List.zipWith f x y).getD i 0 = f (x.getD i 0) (y.getD i 0) := by
  rw [gd_lt (by rw [List.length_zipWith]; omega), List.getElem_zipWith, gd_lt hi, gd_lt (by omega)]
theorem toV_less {x y : List Int} (h : x.length = y.length) (j : Nat) : toV (q := q) (lessR q x y j) = lessV (toV x) (toV y) j := by
  funext i
  show cF ((lessR q x y j).getD i 0) = cF (x.getD i 0) - cF (x.getD j 0) * cF (y.getD i 0)
  by_cases hi : i < x.length
  · unfold lessR
    rw [getD_zipWith _ h hi, cF_mod, cF_sub, cF_mul]
  · rw [gd_ge (by unfold lessR; rw [List.length_zipWith]; omega), gd_ge (r := x) (by omega), gd_ge (r := y) (by omega), cF_zero]
    grind
theorem toV_own {a : List Int} (ha : ∀ v ∈ a, 0 ≤ v ∧ v < (q : Int)) (j : Nat) : toV (q := q) (ownR q a j) = ownV invF (toV a) j := by
  funext i
  have hj := getD_lt q_pos ha j
  have ev : ((cF (q := q) (a.getD j 0)).val : Int) = a.getD j 0 := by rw [cF_val, Int.emod_eq_of_lt hj.1 hj.2]
  show cF ((ownR q a j).getD i 0) = cF (ctr q ((cF (q := q) (a.getD j 0)).val : Int)) * cF (a.getD i 0)
  rw [ev]
  by_cases hi : i < a.length
  · unfold ownR
    rw [gd_lt (by rw [List.length_map]; exact hi), List.getElem_map, cF_mod, cF_mul, gd_lt (r := a) hi]
  · rw [gd_ge (by unfold ownR; rw [List.length_map]; omega), gd_ge (r := a) (i := i) (by omega), cF_zero]
    grind
theorem less_row {p : Int} (hp : 0 < p) {x y : List Int} {n : Nat} (hx : x.length = n) (hy : y.length = n) (j : Nat) : (lessR p x y j).length = n ∧ ∀ v ∈ lessR p x y j, 0 ≤ v ∧ v < p := by
  refine ⟨by unfold lessR; rw [List.length_zipWith]; omega, fun v hv => ?_⟩
  unfold lessR at hv
  rw [List.mem_iff_getElem?] at hv
  obtain ⟨i, hi⟩ := hv
  rw [List.getElem?_zipWith] at hi
  split at hi
  · cases Option.some.inj hi
    exact ⟨Int.emod_nonneg _ (by omega), Int.emod_lt_of_pos _ hp⟩
  · cases hi
theorem own_row {p : Int} (hp : 0 < p) {a : List Int} {n : Nat} (ha : a.length = n) (j : Nat) : (ownR p a j).length = n ∧ ∀ v ∈ ownR p a j, 0 ≤ v ∧ v < p := by
  refine ⟨by unfold ownR; rw [List.length_map]; exact ha, fun v hv => ?_⟩
  unfold ownR at hv
  obtain ⟨r, _, rfl⟩ := List.mem_map.mp hv
  exact ⟨Int.emod_nonneg _ (by omega), Int.emod_lt_of_pos _ hp⟩
theorem step_rows {p : Int} (hp : 0 < p) {n : Nat} {st : List (List Int) × List (List Int)} (h1 : RowsOk p n st.1) (h2 : RowsOk p n st.2) (k : Nat) : RowsOk p n (stepR p st k).1 ∧ RowsOk p n (stepR p st k).2 ∧ (stepR p st k).1.length = st.1.length ∧ (stepR p st k).2.length ≤ st.2.length + 1 := by
  unfold stepR
  split
  · exact ⟨h1, h2, rfl, by omega⟩
  · rename_i a r hf
    obtain ⟨ha, _⟩ := filter_head hf
    have ho := own_row hp (h1 a ha).1 k
    refine ⟨fun x hx => ?_, fun x hx => ?_, by rw [List.length_map], by rw [List.length_append, List.length_map]; simp⟩
    · obtain ⟨y, my, rfl⟩ := List.mem_map.mp hx
      exact less_row hp (h1 y my).1 ho.1 k
    · rcases List.mem_append.mp hx with hx | hx
      · obtain ⟨y, my, rfl⟩ := List.mem_map.mp hx
        exact less_row hp (h2 y my).1 ho.1 k
      · have : x = ownR p a k := by simpa using hx
        rw [this]
        exact ho
/-- the steps of both sides -/
theorem step_sim {n : Nat} {st : List (List Int) × List (List Int)} {sv : List (Vec q) × List (Nat × Vec q)} (h1 : RowsOk q n st.1) (h2 : RowsOk q n st.2) (e1 : st.1.map (toV (q := q)) = sv.1) (e2 : st.2.map (toV (q := q)) = sv.2.map (·.2)) (k : Nat) :
    (stepR q st k).1.map (toV (q := q)) = (stepV invF sv k).1 ∧ (stepR q st k).2.map (toV (q := q)) = (stepV invF sv k).2.map (·.2) := by
  have hf : sv.1.filter (fun x => decide (x k ≠ 0)) = (st.1.filter (fun r => decide (r.getD k 0 ≠ 0))).map (toV (q := q)) := by
    rw [← e1, List.filter_map]
    congr 1
    apply List.filter_congr
    intro r hr
    have := cF_ne (q := q) (getD_lt q_pos (h1 r hr).2 k)
    show decide (cF (q := q) (r.getD k 0) ≠ 0) = decide (r.getD k 0 ≠ 0)
    simp only [this]
  unfold stepR stepV
  rw [hf]
  cases hl : st.1.filter (fun r => decide (r.getD k 0 ≠ 0)) with
  | nil => exact ⟨e1, e2⟩
  | cons a r =>
    obtain ⟨ha, _⟩ := filter_head hl
    have ho := own_row (q_pos (q := q)) (h1 a ha).1 k
    have eo : toV (q := q) (ownR q a k) = ownV invF (toV a) k := toV_own (h1 a ha).2 k
    simp only [List.map_cons]
    constructor
    · rw [← e1, List.map_map, List.map_map]
      apply List.map_congr_left
      intro x hx
      show toV (lessR q x (ownR q a k) k) = lessV (toV x) (ownV invF (toV a) k) k
      rw [toV_less (by rw [(h1 x hx).1, ho.1]), eo]
    · rw [List.map_append, List.map_append, List.map_map, List.map_map, List.map_cons, List.map_cons, List.map_nil, List.map_nil, eo]
      congr 1
      have e3 : sv.2.map ((fun b : Nat × Vec q => b.2) ∘ fun b => (b.1, lessV b.2 (ownV invF (toV a) k) k)) = (sv.2.map (·.2)).map fun v => lessV v (ownV invF (toV a) k) k := by
        rw [List.map_map]
        rfl
      rw [e3, ← e2, List.map_map]
      apply List.map_congr_left
      intro x hx
      show toV (lessR q x (ownR q a k) k) = lessV (toV x) (ownV invF (toV a) k) k
      rw [toV_less (by rw [(h2 x hx).1, ho.1]), eo]
theorem steps_sim {n : Nat} {rows : List (List Int)} (h : RowsOk q n rows) : ∀ k, RowsOk q n ((List.range k).foldl (stepR q) (rows, [])).1 ∧ RowsOk q n ((List.range k).foldl (stepR q) (rows, [])).2 ∧
    ((List.range k).foldl (stepR q) (rows, [])).1.map (toV (q := q)) = ((List.range k).foldl (stepV invF) (rows.map (toV (q := q)), [])).1 ∧ ((List.range k).foldl (stepR q) (rows, [])).2.map (toV (q := q)) = ((List.range k).foldl (stepV invF) (rows.map (toV (q := q)), [])).2.map (·.2)
  | 0 => ⟨h, fun r hr => (nomatch hr), rfl, rfl⟩
  | k + 1 => by
    obtain ⟨a, b, c, d⟩ := steps_sim h k
    rw [List.range_succ, List.foldl_append, List.foldl_append]
    obtain ⟨e1, e2, _, _⟩ := step_rows q_pos a b k
    obtain ⟨f1, f2⟩ := step_sim a b c d k
    exact ⟨e1, e2, f1, f2⟩
theorem plainR_rows {n : Nat} {rows : List (List Int)} (h : RowsOk q n rows) : RowsOk q n (plainR q n rows) := (steps_sim h n).2.1
theorem plainR_eq {n : Nat} {rows : List (List Int)} (h : RowsOk q n rows) : (plainR q n rows).map (toV (q := q)) = (plainV invF n (rows.map (toV (q := q)))).map (·.2) := (steps_sim h n).2.2.2
theorem rows_wid {n : Nat} {rows : List (List Int)} (h : RowsOk q n rows) : ∀ x ∈ rows.map (toV (q := q)), ∀ i, n ≤ i → x i = 0 := by
  intro x hx i hi
  obtain ⟨r, mr, rfl⟩ := List.mem_map.mp hx
  exact toV_wid (h r mr).1 i hi
/-- what rows make -/
def Mk (q : Nat) [NeZero q] (rows : List (List Int)) (x : Vec q) : Prop := Spn (rows.map (toV (q := q))) x
/-- a plain form -/
def IsPF (q : Nat) [NeZero q] (n : Nat) (room : List (List Int)) : Prop := RowsOk q n room ∧ ∃ bs : List (Nat × Vec q), PF n bs ∧ bs.map (·.2) = room.map (toV (q := q))
theorem plainR_pf (hF : Fld (q : Int)) {n : Nat} {rows : List (List Int)} (h : RowsOk q n rows) : IsPF q n (plainR q n rows) := ⟨plainR_rows h, _, plainV_pf invF (invF_ok hF) (rows_wid h), (plainR_eq h).symm⟩
theorem plainR_mk (hF : Fld (q : Int)) {n : Nat} {rows : List (List Int)} (h : RowsOk q n rows) (x : Vec q) : Mk q (plainR q n rows) x ↔ Mk q rows x := by
  unfold Mk
  rw [plainR_eq h]
  exact plainV_spn invF (invF_ok hF) (rows_wid h) x
theorem map_inj {n : Nat} : ∀ {xs ys : List (List Int)}, RowsOk q n xs → RowsOk q n ys → xs.map (toV (q := q)) = ys.map (toV (q := q)) → xs = ys
  | [], [], _, _, _ => rfl
  | [], _ :: _, _, _, e => by cases e
  | _ :: _, [], _, _, e => by cases e
  | x :: xs, y :: ys, hx, hy, e => by
    rw [List.map_cons, List.map_cons] at e
    have h1 := hx x List.mem_cons_self
    have h2 := hy y List.mem_cons_self
    have e1 : x = y := toV_inj (by rw [h1.1, h2.1]) h1.2 h2.2 (List.cons.inj e).1
    rw [e1, map_inj (fun r hr => hx r (List.mem_cons_of_mem _ hr)) (fun r hr => hy r (List.mem_cons_of_mem _ hr)) (List.cons.inj e).2]
/-- each room has just one plain form -/
theorem IsPF.uniq (hF : Fld (q : Int)) {n : Nat} {one other : List (List Int)} (h1 : IsPF q n one) (h2 : IsPF q n other) (h : ∀ x, Mk q one x ↔ Mk q other x) : one = other := by
  obtain ⟨r1, bs, b1, e1⟩ := h1
  obtain ⟨r2, cs, c1, e2⟩ := h2
  have h2' : (2 : Int) ≤ q := hF.1
  have e := b1.uniq (one_ne (by omega)) c1 fun x => by
    rw [e1, e2]
    exact h x
  exact map_inj r1 r2 (by rw [← e1, ← e2, e])
theorem IsPF.plain (hF : Fld (q : Int)) {n : Nat} {room rows : List (List Int)} (h1 : IsPF q n room) (h : RowsOk q n rows) (hm : ∀ x, Mk q room x ↔ Mk q rows x) : room = plainR q n rows :=
  h1.uniq hF (plainR_pf hF h) fun x => (hm x).trans (plainR_mk hF h x).symm
end
end OC
/-! a row more: one first place more, or none; worlds that part -/
namespace Lin
set_option linter.all false
end Lin
/-! worlds that part; sizes of sums and of what two rooms share -/
namespace Lin
set_option linter.all false
section
variable {p : Nat} [NeZero p]
/-! ### sizes -/
variable (inv : Fin p → Fin p)
/-- what a list of rows needs: the size of their room -/
def dim (n : Nat) (vs : List (Vec p)) : Nat := (plainV inv n vs).length
structure Good (n : Nat) : Prop where
  one : (1 : Fin p) ≠ 0
  inv : ∀ a : Fin p, a ≠ 0 → inv a * a = 1
def Wid (n : Nat) (vs : List (Vec p)) : Prop := ∀ x ∈ vs, ∀ i, n ≤ i → x i = 0
theorem Wid.app {n : Nat} {vs ws : List (Vec p)} (h1 : Wid n vs) (h2 : Wid n ws) : Wid n (vs ++ ws) := fun x hx => (List.mem_append.mp hx).elim (h1 x) (h2 x)
theorem Wid.one {n : Nat} {v : Vec p} (h : ∀ i, n ≤ i → v i = 0) : Wid n [v] := fun x hx => by
  have : x = v := by simpa using hx
  rw [this]
  exact h
variable {inv}
theorem Good.same {n : Nat} (g : Good inv n) {vs ws : List (Vec p)} (hv : Wid n vs) (hw : Wid n ws) (h : ∀ x, Spn vs x ↔ Spn ws x) : dim inv n vs = dim inv n ws :=
  Nat.le_antisymm (plainV_len_le inv g.one g.inv hv hw fun x hx => (h x).mp hx) (plainV_len_le inv g.one g.inv hw hv fun x hx => (h x).mpr hx)
end
end Lin
/-! across: the worlds at which all rows of a room are worth 0 -/
namespace Lin
set_option linter.all false
end Lin
/-! Which of some rows are needed: those that the ones ahead of them don't make. -/
namespace OC
open Lin
section
variable {q : Nat} [NeZero q]
theorem rowsOk_app {p : Int} {n : Nat} {rs ts : List (List Int)} (h1 : RowsOk p n rs) (h2 : RowsOk p n ts) : RowsOk p n (rs ++ ts) := fun x hx => by
  rcases List.mem_append.mp hx with h' | h'
  · exact h1 x h'
  · exact h2 x h'
theorem rowsOk_nil {p : Int} {n : Nat} : RowsOk p n [] := fun r hr => (nomatch hr)
theorem plainR_congr (hF : Fld (q : Int)) {n : Nat} {one other : List (List Int)} (h1 : RowsOk q n one) (h2 : RowsOk q n other) (h : ∀ x, Mk q one x ↔ Mk q other x) : plainR q n one = plainR q n other :=
  (plainR_pf hF h1).plain hF h2 fun x => (plainR_mk hF h1 x).trans (h x)
end
end OC
/-! The program's own way to the plain form: a row more, taken off, made plain, sorted. Core Lean alone. -/
namespace Lin
set_option linter.all false
end Lin
namespace OC
set_option linter.all false
open Lin
/-! ### first places -/
/-! ### the order of tuples -/
/-! ### rows -/
section
variable {q : Nat} [NeZero q]
theorem q2 (hF : Fld (q : Int)) : 2 ≤ q := by
  have : (2 : Int) ≤ q := hF.1
  omega
theorem isPF_iff (hF : Fld (q : Int)) {n : Nat} {room : List (List Int)} : IsPF q n room ↔ RowsOk q n room ∧ plainR q n room = room :=
  ⟨fun h => ⟨h.1, (IsPF.plain hF h h.1 fun _ => Iff.rfl).symm⟩, fun h => by
    have := plainR_pf hF h.1
    rwa [h.2] at this⟩
end
/-- a plain form: rows that are their own plain form -/
def PFR (p : Int) (n : Nat) (room : List (List Int)) : Prop := RowsOk p n room ∧ plainR p n room = room
theorem to_q {p : Int} (hF : Fld p) : ∃ q : Nat, p = (q : Int) ∧ ∃ _ : NeZero q, Fld (q : Int) := by
  have h2 := hF.1
  obtain ⟨q, rfl⟩ := Int.eq_ofNat_of_zero_le (show 0 ≤ p by omega)
  exact ⟨q, rfl, ⟨by omega⟩, hF⟩
theorem PFR.of_plain {p : Int} (hF : Fld p) {n : Nat} {rows : List (List Int)} (h : RowsOk p n rows) : PFR p n (plainR p n rows) := by
  obtain ⟨q, rfl, _, hF⟩ := to_q hF
  exact (isPF_iff hF).mp (plainR_pf hF h)
theorem PFR.nil {p : Int} (hF : Fld p) (n : Nat) : PFR p n [] := by
  have := PFR.of_plain hF (n := n) (rowsOk_nil (p := p))
  have e : plainR p n [] = [] := by
    have h : ∀ k, (List.range k).foldl (stepR p) (([] : List (List Int)), ([] : List (List Int))) = ([], []) := by
      intro k
      induction k with
      | zero => rfl
      | succ k ih => rw [List.range_succ, List.foldl_append, ih]; rfl
    unfold plainR
    rw [h]
  exact ⟨rowsOk_nil, e⟩
theorem plainR_lenle {p : Int} (hF : Fld p) {n : Nat} {rows : List (List Int)} (h : RowsOk p n rows) : (plainR p n rows).length ≤ n := by
  obtain ⟨q, rfl, _, hF⟩ := to_q hF
  obtain ⟨_, bs, pf, e⟩ := plainR_pf hF h
  have e1 := congrArg List.length e
  rw [List.length_map, List.length_map] at e1
  rw [← e1]
  have h1 : (bs.map (·.1)).Pairwise (· < ·) := List.pairwise_map.mpr pf.inc
  have h2 := (sorted_len h1 (List.pairwise_lt_range (n := n)) fun x hx => by
    obtain ⟨b, hb, rfl⟩ := List.mem_map.mp hx
    exact List.mem_range.mpr (pf.lt b hb)).1
  rw [List.length_map, List.length_range] at h2
  exact h2
end OC
set_option Elab.async false
set_option linter.all false
set_option maxRecDepth 100000
/-! what laws share of rows as ints and as data -/
set_option Elab.async false
set_option linter.all false
set_option maxRecDepth 100000
/-! what the promises of the program's own defs rest on -/
namespace OC
open PySem PySem.Spec PyProof.Rows L2 Lin
/-- rows in a tuple -/
def RowsAt (K : PySem.W.Frag) (H : Hp) (a : Addr) (rs : List (List Int)) : Prop := ∃ ws, SqT K H a ws ∧ DpAll K H ws (rs.map rowD)
theorem RowsAt.same {K : PySem.W.Frag} {H H' : Hp} {a : Addr} {rs : List (List Int)} (s : Same H H') (h : RowsAt K H a rs) : RowsAt K H' a rs := by
  obtain ⟨ws, h1, h2⟩ := h
  exact ⟨ws, Same.tup s h1, dpAll_same s _ _ h2⟩
theorem rowsOk_one {p : Int} {n : Nat} {r : List Int} (h : r.length = n ∧ ∀ x ∈ r, 0 ≤ x ∧ x < p) : RowsOk p n [r] := fun x hx => by
  have : x = r := by simpa using hx
  rw [this]
  exact h
end OC
set_option Elab.async false
set_option linter.all false
set_option maxRecDepth 100000
/-! rooms as data; comprehensions of plain values -/
namespace OC
open PySem PySem.Spec PyProof.Rows L2 Lin
abbrev Bad (d c : Addr) : Addr → Prop := fun a => a = d ∨ a = c
theorem Deck.fresh {H : Hp} {d c p : Addr} {t : Int} (D : Deck H d c t) (n : H p = none) : ¬ Bad d c p := by
  obtain ⟨hd, ⟨cells, h1, h2⟩, _, t0⟩ := D
  rintro (z | z)
  · subst z; rw [hd] at n; cases n
  · subst z; rw [h1] at n; cases n
def L0 : PyData → Prop := fun _ => False
theorem Stays.kept2 {bad : Addr → Prop} {d c : Addr} {t : Int} {H H' : Hp} (D : Deck H d c t) (k : Kept d c H H') (bd : bad d) (bc : bad c) : Stays bad H H' := by
  have s := Stays.kept D k
  refine ⟨s.t, s.d, fun a xs h n => k a _ h (fun z => n (by rw [z]; exact bd)) (fun z => n (by rw [z]; exact bc))⟩
theorem Deck.mut {H : Hp} {d c B : Addr} {t : Int} {o : HO} (D : Deck H d c t) (b : ¬ Bad d c B) : Deck (upd H B o) d c t := by
  obtain ⟨hd, ⟨cells, h1, h2⟩, n, t0⟩ := D
  exact ⟨by rw [upd_ne (fun z => b (.inl z.symm))]; exact hd, ⟨cells, by rw [upd_ne (fun z => b (.inr z.symm))]; exact h1, h2⟩, n, t0⟩
theorem Kept.mut {H H' : Hp} {d c B : Addr} {o : HO} (k : Kept d c H H') (n : H B = none) : Kept d c H (upd H' B o) := fun b x h n1 n2 => by
  rw [upd_ne (ne_of_none h n)]
  exact k b x h n1 n2
/-! ### rooms as data -/
theorem isRow_row {p : Int} {n : Nat} {r : List Int} (h : r.length = n ∧ ∀ x ∈ r, 0 ≤ x ∧ x < p) : isRowD p n (rowD r) = true := by
  show (decide (((r.map PyData.int).length : Int) = n) && (r.map PyData.int).all (restD p)) = true
  rw [List.length_map, h.1, decide_eq_true rfl, Bool.true_and, List.all_map, List.all_eq_true]
  intro x hx
  show (decide (0 ≤ x) && decide (x < p)) = true
  have := h.2 x hx
  rw [decide_eq_true this.1, decide_eq_true this.2]
  rfl
end OC
set_option Elab.async false
set_option linter.all false
set_option maxRecDepth 100000
/-! lists of things, filled while the deck is drawn from -/
namespace OC
open PySem PySem.Spec PyProof.Rows L2
structure Th (K : PySem.W.Frag) (H : Hp) (d c M : Addr) (vs : List V) (es : List PyData) : Prop where
  m : H M = some (.lst vs)
  nb : ¬ Bad d c M
  r : RepAll K H (fun a => Bad d c a ∨ a = M) vs es
section
variable {K : PySem.W.Frag} {H H' : Hp} {d c M : Addr} {t : Int} {vs : List V} {es : List PyData}
theorem Th.same (h : Th K H d c M vs es) (s : Same H H') : Th K H' d c M vs es := ⟨s _ _ h.m, h.nb, repAll_stays (Stays.of s) _ _ h.r⟩
theorem Th.kept (h : Th K H d c M vs es) (D : Deck H d c t) (k : Kept d c H H') : Th K H' d c M vs es :=
  ⟨k _ _ h.m (fun z => h.nb (.inl z)) (fun z => h.nb (.inr z)), h.nb, repAll_stays (Stays.kept2 D k (.inl (.inl rfl)) (.inl (.inr rfl))) _ _ h.r⟩
theorem Th.new (D : Deck H d c t) (n : H M = none) (r : RepAll K H (Bad d c) vs es) : Th K (upd H M (.lst vs)) d c M vs es :=
  ⟨upd_same, D.fresh n, repAll_stays (Stays.of (same_upd n)) _ _ (repAll_fresh n _ _ r)⟩
theorem Th.len (h : Th K H d c M vs es) : vs.length = es.length := repAll_len h.r
end
end OC
set_option Elab.async false
set_option linter.all false
set_option maxRecDepth 100000
/-! across: the program's own rows, and what they are -/
namespace OC
open PySem PySem.Spec PyProof.Rows L2 Lin
section
variable {q : Nat} [NeZero q]
theorem good (hF : Fld (q : Int)) (n : Nat) : Good (invF (q := q)) n := ⟨one_ne (q2 hF), invF_ok hF⟩
/-! ### worth -/
end
end OC
set_option Elab.async false
set_option linter.all false
set_option maxRecDepth 100000
set_option maxHeartbeats 2000000
/-! repr of any thing, lists with dicts too: the modules' own dict is none of them -/
namespace OC
open PySem PySem.Spec PyProof.Rows L2
def HasSys (base : Heap) : Prop := ∃ o, base.get? sysModules = some o
section
variable {X : Cx} {pins : List (Addr × Obj)} {σ : L2.St} {H : Hp} {s : Shared} {bad : Addr → Prop}
theorem sys_none (hs : HasSys X.base) (I : Inv X pins σ H s) : H sysModules = none := by
  obtain ⟨o, e⟩ := hs
  exact (I.bs _ _ e).2
mutual
theorem rep_readsS (hs : HasSys X.base) (I : Inv X pins σ H s) : ∀ (d : PyData) (v : V) (u : Value), Rep X.K H bad v d → RelV v u → ∃ as, Reads s.heap u d as ∧ sysModules ∉ as
  | .none, _, _, h, r => by cases h; cases r; exact ⟨_, .none, nofun⟩
  | .bool b, _, _, h, r => by cases h; cases r; exact ⟨_, .bool b, nofun⟩
  | .int i, _, _, h, r => by cases h; obtain ⟨t, rfl⟩ := r; exact ⟨_, .int i t, nofun⟩
  | .str x, _, _, h, r => by cases h; obtain ⟨t, rfl⟩ := r; exact ⟨_, .str x t, nofun⟩
  | .list ds, _, _, h, r => by
    cases h with
    | @lst a xs _ hq hb ha =>
      cases r
      have ne : sysModules ≠ a := fun z => by
        have := sys_none hs I
        rw [z, hq] at this
        cases this
      obtain ⟨its, rv, ⟨o, n, ho, hc, _, hd⟩, _⟩ := I.list (.inl (.inl hq))
      obtain ⟨as, q, f⟩ := repAll_readsS hs I ds _ its ha rv
      refine ⟨_, .list ho hc hd q, fun m => ?_⟩
      first
        | exact f m
        | (rcases List.mem_cons.mp m with z | m; exact ne z; exact f m)
  | .tuple ds, _, _, h, r => by
    cases h with
    | tup hq ha =>
      cases r
      obtain ⟨its, rv, ⟨o, ho, hc, n, hd⟩, _⟩ := I.tuple hq
      obtain ⟨as, q, f⟩ := repAll_readsS hs I ds _ its ha rv
      exact ⟨_, .tuple ho hc hd q, f⟩
  | .dict kvs, v, u, h, r => by
    cases h with
    | @dct a ks hq hf =>
      cases r
      obtain ⟨_, hsys, vs, kv, o, es, ep, ho, hx, hd, _, hp, _⟩ := I.hok a _ hq
      obtain ⟨r1, r2⟩ := reads_pairs (h := s.heap) hp kv hf
      refine ⟨a :: [] ++ [], .dict ho hx.1 hd (by rw [List.map_map]; exact r1) (by rw [List.map_map]; exact r2), fun m => ?_⟩
      have e : sysModules = a := by simpa using m
      rw [← e] at hsys
      simp at hsys
theorem repAll_readsS (hs : HasSys X.base) (I : Inv X pins σ H s) : ∀ (ds : List PyData) (vs : List V) (us : List Value), RepAll X.K H bad vs ds → Vals vs us → ∃ as, ReadsAll s.heap us ds as ∧ sysModules ∉ as
  | [], _, _, h, r => by cases h; cases r; exact ⟨_, .nil, nofun⟩
  | d :: ds, _, _, h, r => by
    cases h with
    | cons h1 h2 =>
      cases r with
      | cons r1 r2 =>
        obtain ⟨as, q1, f1⟩ := rep_readsS hs I d _ _ h1 r1
        obtain ⟨bs, q2, f2⟩ := repAll_readsS hs I ds _ _ h2 r2
        refine ⟨_, .cons q1 q2, fun m => ?_⟩
        rcases List.mem_append.mp m with m | m
        · exact f1 m
        · exact f2 m
end
end
/-- what repr asks of a thing, wherever dicts and lists stand in it -/
structure FitS (d : PyData) : Prop where
  len : d.shown.length ≤ 10000000
  sh : d.showable = true
  dp : d.depth ≤ 55
def rReprS (K : PySem.W.Frag) (bad : Addr → Prop) : List V → Hp → VK → Prop := fun xs H Q => ∃ v d, xs = [v] ∧ Rep K H bad v d ∧ FitS d ∧ Q (.str d.shown) H
theorem call_reprS {X : Cx} {k : Nat} (bad : Addr → Prop) (hs : HasSys X.base) (hr : Room k X.A) (hgd : X.A.guards = some []) : CallR X (.builtin "repr") (rReprS X.K bad) := by
  intro pins s σ H xs us Q I r h
  obtain ⟨v, d, rfl, hv, ⟨fl, fs, fd⟩, q⟩ := h
  cases r with
  | cons r1 r2 =>
    cases r2
    have hz : d.shown.length ≤ sizeLine := Nat.le_trans fl (by decide)
    have hu := hr.units
    obtain ⟨as, rd, hsm⟩ := rep_readsS hs I d v _ hv r1
    cases hv with
    | non => cases r1; exact P.repr_of_none ⟨.str _, H, I.tok _, ⟨_, rfl⟩, q⟩
    | bl b => cases r1; exact P.repr_of_bool ⟨.str _, H, I.tok _, ⟨_, rfl⟩, q⟩
    | int i =>
      obtain ⟨t, rfl⟩ := r1
      exact P.repr_of_int (by simpa [PyData.showable] using fs) ⟨.str _, H, I.tok _, ⟨_, rfl⟩, q⟩
    | str x =>
      obtain ⟨t, rfl⟩ := r1
      exact P.repr_of_str ⟨.str _, H, I.tok _, ⟨_, rfl⟩, q⟩ hz
    | lst _ _ _ => cases r1; exact repr_of_reads' rd fs (fun _ => hsm) hgd (by omega) (fun _ _ e => e) (fun h' u tk hk => ⟨.str _, H, I.kept hk, ⟨_, rfl⟩, q⟩) hz
    | tup _ _ => cases r1; exact repr_of_reads' rd fs (fun _ => hsm) hgd (by omega) (fun _ _ e => e) (fun h' u tk hk => ⟨.str _, H, I.kept hk, ⟨_, rfl⟩, q⟩) hz
    | dct _ _ => cases r1; exact repr_of_reads' rd fs (fun _ => hsm) hgd (by omega) (fun _ _ e => e) (fun h' u tk hk => ⟨.str _, H, I.kept hk, ⟨_, rfl⟩, q⟩) hz
/-! ### the end, with that -/
section
variable {P : Program} {w : World} {K : PySem.W.Frag} {mg mb : Str → Option Value} {CX : CXT} {k : Nat} {fa a : Addr} {fd : FuncData} {x : Str} {sp : Sp} {s₁ : Shared} {vs : List Value} {ns : List Int}
theorem law_callS (KX : K.In s₁.heap) (hns : s₁.heap.Ns mainGlobals mg) (hb : s₁.heap.Ns builtinsNs mb) (hbb : ∀ x : Str, x ≠ "__name__" → mb x = bootBuiltins x) (hsy : ∃ mm, s₁.heap.Ns sysModules mm)
    (hlim : s₁.heap.NoLimit) (hg : s₁.gens = #[]) (ha : s₁.heap.get? a = some { cls := .type "list", data := .seq vs.toArray }) (hi : IntsAre vs ns) (hl : ns.length ≤ sizeLine) (hr : Room k callerA)
    (F : ∀ base : Heap, K.In base → base.Ns mainGlobals mg → HasSys base → FnG P w K mg base CX k fa fd [x] sp)
    (hbind : ∀ (s : Shared) (u : Value), BindsTo s fd ⟨[u], []⟩ [(x, u)])
    (hsp : ∀ H : Hp, Only H → SqL K H a (ns.map V.int) → sp [.ref a] H (fun v _ => v = .bl true) fun _ _ _ => False) (hCX : ∀ H e s', CX [] H s₁ (fun _ _ _ => False) e s' → False) :
    codeAny (model P w) callerA (.call (.ref fa) ⟨[.ref a], []⟩) (fun r s' => r = .ok (.ret (.bool true)) ∧ OldK s₁.heap s'.heap ∧ s'.os = s₁.os ∧ AllBare s'.gens) s₁ := by
  obtain ⟨mm, hmm⟩ := hsy
  -- a promise that asks for the modules' dict is one of those that ask for it anyway
  have core : ∀ H : Hp, Only H → sp [.ref a] H (fun v _ => v = .bl true) (fun _ _ _ => False) → HOk P w H s₁.heap → (∀ b, H b ≠ none → b = a) → (H a ≠ none → K.lookup a = none) →
      codeAny (model P w) callerA (.call (.ref fa) ⟨[.ref a], []⟩) (fun r s' => r = .ok (.ret (.bool true)) ∧ OldK s₁.heap s'.heap ∧ s'.os = s₁.os ∧ AllBare s'.gens) s₁ := by
    intro H hO hsp hok hA hK
    have off : ∀ {b : Addr} {o : Obj} {es : Array DictEntry} {ep : Nat}, s₁.heap.get? b = some o → o.data = .dict es ep → H b = none := by
      intro b o es ep e d
      apply Classical.byContradiction
      intro nb
      have eb := hA b nb
      subst eb
      rw [ha] at e
      have eo := Option.some.inj e
      subst eo
      cases (show Data.seq vs.toArray _ = Data.dict es ep from d)
    have nsB : ∀ {b : Addr} {m : Str → Option Value}, s₁.heap.Ns b m → (hidT s₁.heap H).Ns b m := by
      rintro b m ⟨o, es, ep, e, d, r⟩
      exact ⟨o, es, ep, hidT_get e (off e d), d, r⟩
    have inB : K.In (hidT s₁.heap H) := by
      intro b o e
      refine hidT_get (KX b o e) ?_
      apply Classical.byContradiction
      intro nb
      have eb := hA b nb
      subst eb
      rw [hK nb] at e
      cases e
    obtain ⟨mc, l1, l2⟩ := hlim
    have M : Mod K mg (hidT s₁.heap H) := ⟨inB, nsB hns, ⟨mb, nsB hb, hbb⟩, ⟨mc, nsB l1, l2⟩⟩
    have hs : HasSys (hidT s₁.heap H) := by
      obtain ⟨o, es, ep, e, _⟩ := nsB hmm
      exact ⟨o, e⟩
    have e0 : Env0 P w K mg (hidT s₁.heap H) callerA [] s₁ H :=
      ⟨rfl, M, fun b o e => of_hidT e, Nat.le_of_eq (hidT_size _ _), trivial, fun b hb => (nomatch (show b ∈ ([] : List Addr) from hb)), hok, .of_eq hg⟩
    have run := (F _ inB (nsB hns) hs).go callerA [] s₁ H ⟨[.ref a], []⟩ [.ref a] [.ref a] _ _ hr rfl e0 (hbind s₁ (.ref a)) (.cons rfl .nil) hsp
    apply codeAny_mono run
    intro r s' h
    rcases r with e | fl
    · exact (hCX H e s' h).elim
    · rcases fl with _ | _ | _ | u
      all_goals first
        | exact (show False from h).elim
        | skip
      obtain ⟨v, H', os, bare, un, hok', r', q⟩ := h
      cases (show v = .bl true from q)
      cases (show u = Value.bool true from r')
      refine ⟨rfl, OldK.of_keep ?_, os, bare⟩
      intro b o e
      rcases hO b with z | ⟨ob, xs, z⟩
      · exact un.keep b o e z (fun y => (nomatch (show b ∈ ([] : List Addr) from y))) (fun y => (nomatch y))
      · have e1 := (hok b _ z).1
        have e2 := (hok' b _ (un.frzs b ob _ z)).1
        rw [e] at e1
        rw [Option.some.inj e1]
        exact e2
  have rv := vals_ints hi
  have lv := hi.length
  cases hk : K.lookup a with
  | some o =>
    have e := KX a o hk
    rw [ha] at e
    have eo := (Option.some.inj e).symm
    subst eo
    have only : Only (fun _ => none) := fun _ => .inl rfl
    have sq : SqL K (fun _ => none) a (ns.map V.int) := .inr ⟨_, vs.toArray, _, hk, rfl, rfl, rfl, by rw [List.size_toArray, lv]; exact hl, by simpa using rv⟩
    exact core (fun _ => none) only (hsp _ only sq) (fun b u z => (nomatch (show (none : Option HO) = some u from z))) (fun b z => (z rfl).elim) (fun z => (z rfl).elim)
  | none =>
    let H0 : Hp := upd (fun _ => none) a (.frz { cls := .type "list", data := .seq vs.toArray } (.lst (ns.map V.int)))
    have at_a : H0 a = some (.frz { cls := .type "list", data := .seq vs.toArray } (.lst (ns.map V.int))) := upd_same
    have off : ∀ b, b ≠ a → H0 b = none := fun b n => upd_ne n
    have only : Only H0 := by
      intro b
      by_cases hb : b = a
      · subst hb
        exact .inr ⟨_, _, at_a⟩
      · exact .inl (off b hb)
    refine core H0 only (hsp _ only (.inl (.inr ⟨_, at_a⟩))) ?_ ?_ (fun _ => hk)
    · intro b u z
      by_cases hb : b = a
      · subst hb
        rw [at_a] at z
        have ez := (Option.some.inj z).symm
        subst ez
        exact ⟨ha, by rw [List.length_map]; exact hl, vs, _, rv, ha⟩
      · rw [off b hb] at z
        cases z
    · intro b z
      apply Classical.byContradiction
      intro hb
      exact z (off b hb)
end
theorem walk_ofS {l : PySem.W.OpenLaw} {n k : Nat} {q : Program} {loose : List Str} {XP : (Str → Option Value) → Heap → Prop} {YP : World → Heap → Prop} {d : DefRec} {K : Params → PySem.W.Frag} {CX : World → CXT} {sp : World → Sp} {x : Str}
    (hn : l.most = some n) (hn2 : n ≤ sizeLine) (hdf : d.params.defaults = []) (hr : Room k callerA) (him : importsNone q = true) (hY : ∀ (w : World) (h : Heap), YP w h → (K w.params).In h) (F : ∀ (w : World) (mg : Str → Option Value) (fa : Addr) (h : Heap), (K w.params).In h → h.Ns mainGlobals mg → mg d.name = some (.ref fa) → ∃ fd : FuncData, (∀ (s : Shared) (u : Value), BindsTo s fd ⟨[u], []⟩ [(x, u)]) ∧ ∀ base : Heap, (K w.params).In base → base.Ns mainGlobals mg → HasSys base → FnG l.prog w (K w.params) mg base (CX w) k fa fd [x] (sp w)) (hsp : ∀ (w : World) (H : Hp) (a : Addr) (ns : List Int), ns.length ≤ n → Only H → SqL (K w.params) H a (ns.map V.int) → sp w [.ref a] H (fun v _ => v = .bl true) fun _ _ _ => False) (hCX : ∀ (w : World) (H : Hp) (s : Shared) (e : Value) (s' : Shared), CX w [] H s (fun _ _ _ => False) e s' → False) : PySem.W.WalkO q loose XP YP l.row.toRowW d [] (fun f vs => PySem.call f vs) := by
  apply Att.attach_call hn hdf
  intro w s₀ s₁ mg mb fa o pm cd doc a vs ns G Y ho hd hcd hmg hobj hints hlen hg
  obtain ⟨fd, hb, hF⟩ := F w mg fa _ (hY w _ Y) G.T.g hmg
  have sy : ∃ mm, s₁.heap.Ns sysModules mm := by
    obtain ⟨mm, h1, _⟩ := (G.T.seer him).mods
    exact ⟨mm, h1⟩
  exact law_callS (hY w _ Y) G.T.g G.T.b G.T.builtins sy G.T.nolimit hg hobj hints (Nat.le_trans hlen hn2) hr hF hb (fun H hO hS => hsp w H a ns hlen hO hS) fun H e s' => hCX w H s₁ e s'
end OC
set_option Elab.async false
set_option linter.all false
set_option maxRecDepth 100000
/-! how rows are made: marked rows, taken off -/
namespace Lin
section
variable {p : Nat} [NeZero p]
theorem lin_snoc : ∀ (fs : List (Fin p)) (vs : List (Vec p)) (c : Fin p) (v : Vec p), fs.length = vs.length → lin (fs ++ [c]) (vs ++ [v]) = addV (lin fs vs) (mulV c v)
  | [], [], c, v, _ => by
    show addV (mulV c v) zeroV = addV zeroV (mulV c v)
    funext i
    show c * v i + 0 = 0 + c * v i
    grind
  | [], _ :: _, _, _, e => by cases e
  | _ :: _, [], _, _, e => by cases e
  | f :: fs, u :: us, c, v, e => by
    show addV (mulV f u) (lin (fs ++ [c]) (us ++ [v])) = addV (addV (mulV f u) (lin fs us)) (mulV c v)
    rw [lin_snoc fs us c v (Nat.succ.inj e)]
    funext i
    show f * u i + (lin fs us i + c * v i) = f * u i + lin fs us i + c * v i
    grind
/-- no row is made by those ahead of it -/
def Free (vs : List (Vec p)) : Prop := ∀ k v, vs[k]? = some v → ¬ Spn (vs.take k) v
theorem Free.init {vs : List (Vec p)} {v : Vec p} (h : Free (vs ++ [v])) : Free vs ∧ ¬ Spn vs v := by
  constructor
  · intro k u hu
    have hk : k < vs.length := (List.getElem?_eq_some_iff.mp hu).1
    have := h k u (by rw [List.getElem?_append_left hk]; exact hu)
    rwa [List.take_append_of_le_length (by omega)] at this
  · have := h vs.length v (by rw [List.getElem?_append_right (Nat.le_refl _), Nat.sub_self]; rfl)
    rwa [List.take_append_of_le_length (Nat.le_refl _), List.take_length] at this
theorem Free.zero (inv : Fin p → Fin p) (hinv : ∀ a : Fin p, a ≠ 0 → inv a * a = 1) : ∀ (m : Nat) (vs : List (Vec p)) (fs : List (Fin p)), vs.length = m → Free vs → fs.length = vs.length → lin fs vs = zeroV → ∀ f ∈ fs, f = 0
  | 0, vs, fs, hm, _, hl, _ => by
    intro f hf
    rw [hm] at hl
    rw [List.length_eq_zero_iff.mp hl] at hf
    cases hf
  | m + 1, vs, fs, hm, hF, hl, hz => by
    obtain ⟨vs', v, rfl⟩ : ∃ vs' v, vs = vs' ++ [v] := by
      rcases List.eq_nil_or_concat vs with h | ⟨a, b, h⟩
      · rw [h] at hm; cases hm
      · exact ⟨a, b, by rw [h]; exact List.concat_eq_append⟩
    obtain ⟨fs', c, rfl⟩ : ∃ fs' c, fs = fs' ++ [c] := by
      rcases List.eq_nil_or_concat fs with h | ⟨a, b, h⟩
      · rw [h, hm] at hl; cases hl
      · exact ⟨a, b, by rw [h]; exact List.concat_eq_append⟩
    rw [List.length_append, List.length_append] at hl
    have hl' : fs'.length = vs'.length := by simpa using hl
    obtain ⟨h1, h2⟩ := hF.init
    rw [lin_snoc fs' vs' c v hl'] at hz
    have c0 : c = 0 := by
      apply Classical.byContradiction
      intro hc
      apply h2
      have hS := spn_sub vs'
      have h3 : Spn vs' (lin fs' vs') := ⟨fs', rfl⟩
      have h4 := hS.mul (-(inv c)) h3
      have e : v = mulV (-(inv c)) (lin fs' vs') := by
        funext i
        have e1 := congrFun hz i
        have e1 : lin fs' vs' i + c * v i = 0 := e1
        have e2 := hinv c hc
        show v i = -(inv c) * lin fs' vs' i
        have e3 : lin fs' vs' i = -(c * v i) := by grind
        rw [e3]
        have : inv c * c * v i = v i := by rw [e2]; grind
        grind
      rw [e]
      exact h4
    have hz' : lin fs' vs' = zeroV := by
      funext i
      have e1 := congrFun hz i
      have e1 : lin fs' vs' i + c * v i = 0 := e1
      rw [c0] at e1
      show lin fs' vs' i = 0
      grind
    intro f hf
    rcases List.mem_append.mp hf with hf | hf
    · exact Free.zero inv hinv m vs' fs' (by rw [List.length_append] at hm; simpa using hm) h1 hl' hz' f hf
    · have : f = c := by simpa using hf
      rw [this]
      exact c0
end
end Lin
set_option Elab.async false
set_option linter.all false
set_option maxRecDepth 100000
set_option maxHeartbeats 2000000
set_option Elab.async false
set_option linter.all false
set_option maxRecDepth 100000
set_option maxHeartbeats 4000000
/-! the text of a tuple of rows tells the rows -/
set_option Elab.async false
set_option linter.all false
set_option maxRecDepth 100000
set_option maxHeartbeats 4000000
/-! what rows make, by p -/
namespace OC
open PySem PySem.Spec PyProof.Rows L2 Lin
/-- the rows make the row -/
def InR (p : Int) (rs : List (List Int)) (r : List Int) : Prop := ∀ (q : Nat) (_ : NeZero q), p = (q : Int) → Mk q rs (toV (q := q) r)
theorem InR.mono {p : Int} {rs ts : List (List Int)} {r : List Int} (h : ∀ x ∈ rs, InR p ts x) (hr : InR p rs r) : InR p ts r := fun q z e =>
  spn_sub_of (fun v hv => by
    obtain ⟨x, mx, rfl⟩ := List.mem_map.mp hv
    exact h x mx q z e) (hr q z e)
theorem plain_same {p : Int} (hF : Fld p) {n : Nat} {one other : List (List Int)} (h1 : RowsOk p n one) (h2 : RowsOk p n other) (a : ∀ r ∈ one, InR p other r) (b : ∀ r ∈ other, InR p one r) : plainR p n one = plainR p n other := by
  obtain ⟨q, rfl, z, hq⟩ := to_q hF
  refine plainR_congr hF h1 h2 fun x => ⟨fun hx => ?_, fun hx => ?_⟩
  · exact spn_sub_of (fun v hv => by
      obtain ⟨y, my, rfl⟩ := List.mem_map.mp hv
      exact a y my q z rfl) hx
  · exact spn_sub_of (fun v hv => by
      obtain ⟨y, my, rfl⟩ := List.mem_map.mp hv
      exact b y my q z rfl) hx
end OC
set_option Elab.async false
set_option linter.all false
set_option maxRecDepth 100000
set_option maxHeartbeats 4000000
/-! a display of one pair whose key is a tuple -/
set_option Elab.async false
set_option linter.all false
set_option maxRecDepth 100000
set_option maxHeartbeats 4000000
/-! dicts whose keys are rows; all rows that rows make -/
set_option Elab.async false
set_option linter.all false
set_option maxRecDepth 100000
set_option maxHeartbeats 4000000
/-! lists of rows that stand by themselves; all rows -/
namespace OC
open PySem PySem.Spec PyProof.Rows L2
inductive TAll (H : Hp) : List V → List (List Int) → Prop
  | nil : TAll H [] []
  | cons {b : Addr} {g : List Int} {vs : List V} {gs : List (List Int)} : H b = some (.tup (g.map V.int)) → TAll H vs gs → TAll H (.ref b :: vs) (g :: gs)
theorem TAll.same {H H' : Hp} (s : Same H H') : ∀ {vs : List V} {gs : List (List Int)}, TAll H vs gs → TAll H' vs gs
  | _, _, .nil => .nil
  | _, _, .cons h t => .cons (s _ _ h) (t.same s)
theorem TAll.app {H : Hp} : ∀ {vs us : List V} {gs hs : List (List Int)}, TAll H vs gs → TAll H us hs → TAll H (vs ++ us) (gs ++ hs)
  | _, _, _, _, .nil, h => h
  | _, _, _, _, .cons h t, h2 => .cons h (t.app h2)
theorem TAll.len {H : Hp} : ∀ {vs : List V} {gs : List (List Int)}, TAll H vs gs → vs.length = gs.length
  | _, _, .nil => rfl
  | _, _, .cons _ t => by rw [List.length_cons, List.length_cons, t.len]
theorem TAll.mut {H : Hp} {D : Addr} {xs : List V} {o : HO} (e : H D = some (.lst xs)) : ∀ {vs : List V} {gs : List (List Int)}, TAll H vs gs → TAll (upd H D o) vs gs
  | _, _, .nil => .nil
  | _, _, .cons h t => .cons (by rw [upd_ne (fun z => by rw [z, e] at h; cases h)]; exact h) (t.mut e)
end OC
set_option Elab.async false
set_option linter.all false
set_option maxRecDepth 100000
set_option maxHeartbeats 4000000
/-! min and max of a tuple of ints -/
set_option Elab.async false
set_option linter.all false
set_option maxRecDepth 100000
set_option maxHeartbeats 4000000
/-! what is left of a row -/
namespace OC
theorem InR.plain {p : Int} (hF : Fld p) {n : Nat} {rs : List (List Int)} (h : RowsOk p n rs) {r : List Int} : InR p (plainR p n rs) r ↔ InR p rs r := ⟨fun hx q z e => by
    subst e
    exact (plainR_mk hF h _).mp (hx q z rfl), fun hx q z e => by
    subst e
    exact (plainR_mk hF h _).mpr (hx q z rfl)⟩
end OC
set_option Elab.async false
set_option linter.all false
set_option maxRecDepth 100000
set_option maxHeartbeats 4000000
/-! rows and lists of them: what laws over rooms share -/
namespace OC
open PySem PySem.Spec PyProof.Rows L2
section
variable {K : PySem.W.Frag} {H : Hp} {bad : Addr → Prop}
theorem RowsAt.dp {a : Addr} {rs : List (List Int)} (h : RowsAt K H a rs) : Dp K H (.ref a) (.tuple (rs.map rowD)) := by
  obtain ⟨ws, h1, h2⟩ := h
  exact .tup h1 h2
end
end OC
set_option Elab.async false
set_option linter.all false
set_option maxRecDepth 100000
set_option maxHeartbeats 4000000
/-! rooms joined and shared -/
namespace OC
open PySem PySem.Spec PyProof.Rows L2 Lin
def joinR (p : Int) (n : Nat) (one other : List (List Int)) : List (List Int) := plainR p n (one ++ other)
section
variable {p : Int} {n : Nat} {one other : List (List Int)}
theorem PFR.ext (hF : Fld p) (h1 : PFR p n one) (h2 : PFR p n other) (a : ∀ r ∈ one, InR p other r) (b : ∀ r ∈ other, InR p one r) : one = other := by
  have := plain_same hF h1.1 h2.1 a b
  rw [h1.2, h2.2] at this
  exact this
theorem InR.join (hF : Fld p) (h1 : RowsOk p n one) (h2 : RowsOk p n other) {r : List Int} : InR p (joinR p n one other) r ↔ InR p (one ++ other) r := InR.plain hF (rowsOk_app h1 h2)
end
theorem PFR.len {p : Int} {n : Nat} {room : List (List Int)} (hF : Fld p) (h : PFR p n room) : room.length ≤ n := by
  have := plainR_lenle hF h.1
  rwa [h.2] at this
end OC
set_option Elab.async false
set_option linter.all false
set_option maxRecDepth 100000
set_option maxHeartbeats 4000000
/-! across: the more a room has, the less -/
set_option Elab.async false
set_option linter.all false
set_option maxRecDepth 100000
set_option maxHeartbeats 4000000
/-! rows of a room by their numbers; worlds alike -/
namespace Lin
end Lin
set_option Elab.async false
set_option linter.all false
set_option maxRecDepth 100000
set_option maxHeartbeats 4000000
/-! plain rows in any order: what is left of a row, and one row more -/
namespace Lin
end Lin
set_option Elab.async false
set_option linter.all false
set_option maxRecDepth 100000
set_option maxHeartbeats 4000000
/-! the drawn numbers of the laws over stands: a list of cells, a count, a list of rests -/
namespace OC
open PySem PySem.Spec PyProof.Rows L2
structure Drw (H : Hp) (d c e : Addr) (t : Int) : Prop where
  hd : H d = some (.lst [.ref c, .int t, .ref e])
  hc : ∃ cells rests : List Int, H c = some (.lst (cells.map V.int)) ∧ H e = some (.lst (rests.map V.int)) ∧ cells.length = rests.length ∧ 0 < cells.length ∧ cells.length ≤ 63 ∧ ∀ x ∈ rests, 0 ≤ x
  cd : c ≠ d
  ed : e ≠ d
  ce : c ≠ e
  t0 : 0 ≤ t
section
variable {H H' : Hp} {d c e : Addr} {t : Int}
theorem Drw.same (D : Drw H d c e t) (s : Same H H') : Drw H' d c e t := by
  obtain ⟨hd, ⟨cells, rests, h1, h2, h3⟩, a, b, f, t0⟩ := D
  exact ⟨s _ _ hd, ⟨cells, rests, s _ _ h1, s _ _ h2, h3⟩, a, b, f, t0⟩
/-- one of the three lists -/
def Bd3 (d c e : Addr) : Addr → Prop := fun a => a = d ∨ a = c ∨ a = e
theorem Drw.fresh (D : Drw H d c e t) {p : Addr} (n : H p = none) : ¬ Bd3 d c e p := by
  obtain ⟨hd, ⟨cells, rests, h1, h2, h3⟩, _⟩ := D
  rintro (z | z | z)
  · subst z; rw [hd] at n; cases n
  · subst z; rw [h1] at n; cases n
  · subst z; rw [h2] at n; cases n
theorem Drw.mut (D : Drw H d c e t) {B : Addr} {o : HO} (b : ¬ Bd3 d c e B) : Drw (upd H B o) d c e t := by
  obtain ⟨hd, ⟨cells, rests, h1, h2, h3⟩, x, y, z, t0⟩ := D
  exact ⟨by rw [upd_ne (fun z => b (.inl z.symm))]; exact hd, ⟨cells, rests, by rw [upd_ne (fun z => b (.inr (.inl z.symm)))]; exact h1, by rw [upd_ne (fun z => b (.inr (.inr z.symm)))]; exact h2, h3⟩, x, y, z, t0⟩
theorem Drw.tup {K : PySem.W.Frag} (D : Drw H d c e t) (k : Kept d e H H') {a : Addr} {xs : List V} (h : SqT K H a xs) : SqT K H' a xs := by
  obtain ⟨hd, ⟨cells, rests, h1, h2, h3⟩, _⟩ := D
  rcases h with (h | ⟨o, h⟩) | h
  · exact .inl (.inl (k _ _ h (fun z => by subst z; rw [hd] at h; cases h) (fun z => by subst z; rw [h2] at h; cases h)))
  · exact .inl (.inr ⟨o, k _ _ h (fun z => by subst z; rw [hd] at h; cases h) (fun z => by subst z; rw [h2] at h; cases h)⟩)
  · exact .inr h
theorem Drw.lst (k : Kept d e H H') {a : Addr} {o : HO} (b : ¬ Bd3 d c e a) (h : H a = some o) : H' a = some o := k _ _ h (fun z => b (.inl z)) (fun z => b (.inr (.inr z)))
end
theorem sql_same {K : PySem.W.Frag} {H H' : Hp} {a : Addr} {xs : List V} (e : Same H H') (h : SqL K H a xs) : SqL K H' a xs := by
  rcases h with (h | ⟨o, h⟩) | h
  · exact .inl (.inl (e _ _ h))
  · exact .inl (.inr ⟨o, e _ _ h⟩)
  · exact .inr h
end OC
set_option Elab.async false
set_option linter.all false
set_option maxRecDepth 100000
set_option maxHeartbeats 4000000
set_option Elab.async false
set_option linter.all false
set_option maxRecDepth 100000
set_option maxHeartbeats 4000000
namespace OC
open PySem PySem.Spec PyProof.Rows L2
def handD (h : Str × List (List Int)) : PyData := .tuple [.str h.1, .tuple (h.2.map rowD)]
/-- a stand as data -/
def standD (p : Int) (n : Nat) (kn : List (List Int)) (hs : List (Str × List (List Int))) : PyData := .tuple [.int p, .int n, .tuple (kn.map rowD), .tuple (hs.map handD)]
theorem noL_hands : ∀ hs : List (Str × List (List Int)), noLAll (hs.map handD) = true
  | [] => rfl
  | h :: hs => by
    have a : noL (handD h) = true := by
      unfold handD
      simp only [noL, noLAll, noL_rows, Bool.and_true]
    rw [List.map_cons]
    simp only [noLAll, a, noL_hands hs, Bool.and_true]
theorem in_strs (x : Str) (ns : List Str) : inV (.str x) (ns.map V.str) = decide (x ∈ ns) := by
  unfold inV
  rw [List.any_map]
  by_cases h : x ∈ ns
  · rw [decide_eq_true h]
    refine List.any_eq_true.mpr ⟨x, h, ?_⟩
    show (x == x) = true
    exact beq_self_eq_true x
  · rw [decide_eq_false h]
    refine List.any_eq_false.mpr fun y hy e => h ?_
    have e : (y == x) = true := e
    rw [← eq_of_beq e]
    exact hy
end OC
set_option Elab.async false
set_option linter.all false
set_option maxRecDepth 100000
set_option maxHeartbeats 4000000
set_option Elab.async false
set_option linter.all false
set_option maxRecDepth 100000
set_option maxHeartbeats 4000000
namespace OC
open PySem PySem.Spec PyProof.Rows L2
theorem PFR.rows {p : Int} {n : Nat} {room : List (List Int)} (h : PFR p n room) : RowsOk p n room := fun r hr => h.1 r hr
end OC
set_option Elab.async false
set_option linter.all false
set_option maxRecDepth 100000
set_option maxHeartbeats 4000000
set_option Elab.async false
set_option linter.all false
set_option maxRecDepth 100000
set_option maxHeartbeats 4000000
namespace OC
open PySem PySem.Spec PyProof.Rows L2
theorem rep_strs {K : PySem.W.Frag} {H : Hp} {bad : Addr → Prop} : ∀ ns : List Str, RepAll K H bad (ns.map V.str) (ns.map PyData.str)
  | [] => .nil
  | x :: ns => .cons (.str x) (rep_strs ns)
end OC
set_option Elab.async false
set_option linter.all false
set_option maxRecDepth 100000
set_option maxHeartbeats 4000000
/-! what repr asks, with bounds; comprehensions of things with old lists in them -/
namespace OC
open PySem PySem.Spec PyProof.Rows L2
structure FitZ (B k : Nat) (d : PyData) : Prop where
  len : d.shown.length ≤ B
  sh : d.showable = true
  dp : d.depth ≤ k
theorem FitZ.mono {B B' k k' : Nat} {d : PyData} (h : FitZ B k d) (hB : B ≤ B') (hk : k ≤ k') : FitZ B' k' d := ⟨Nat.le_trans h.len hB, h.sh, Nat.le_trans h.dp hk⟩
theorem FitZ.fit {B k : Nat} {d : PyData} (h : FitZ B k d) (hB : B ≤ 10000000) (hk : k ≤ 55) : FitS d := ⟨Nat.le_trans h.len hB, h.sh, Nat.le_trans h.dp hk⟩
theorem FitB.z {B k : Nat} {d : PyData} (h : FitB B k d) : FitZ B k d := ⟨h.len, h.sh, h.dp⟩
theorem fitz_int {i : Int} (h0 : -1000000 ≤ i) (h1 : i ≤ 1000000) : FitZ 50 0 (.int i) := (fit_int (Nat.lt_of_le_of_lt (show i.natAbs ≤ 1000000 by omega) (by decide))).z
theorem fitz_tuple {B k n : Nat} {ds : List PyData} (hl : ds.length ≤ n) (h : ∀ d ∈ ds, FitZ B k d) : FitZ (n * (B + 2) + 3) (k + 1) (.tuple ds) := by
  refine ⟨?_, ?_, ?_⟩
  · simp only [PyData.shown]
    refine Nat.le_trans (tupleText_len_le _) ?_
    rw [shownAll_map, List.length_map]
    have h1 := sum_le (B := B) (ts := ds.map PyData.shown) fun t ht => by
      obtain ⟨d, m, rfl⟩ := List.mem_map.mp ht
      exact (h d m).len
    rw [List.length_map] at h1
    have h2 : ds.length * (B + 2) ≤ n * (B + 2) := Nat.mul_le_mul_right _ hl
    rw [Nat.mul_add] at h2
    omega
  · simp only [PyData.showable]
    exact showAll_of fun d m => (h d m).sh
  · simp only [PyData.depth]
    have := depthAll_of fun d m => (h d m).dp
    omega
theorem fitz_list {B k n : Nat} {ds : List PyData} (hl : ds.length ≤ n) (h : ∀ d ∈ ds, FitZ B k d) : FitZ (n * (B + 2) + 3) (k + 1) (.list ds) := by
  refine ⟨?_, ?_, ?_⟩
  · simp only [PyData.shown]
    refine Nat.le_trans (listText_len_le _) ?_
    rw [shownAll_map, List.length_map]
    have h1 := sum_le (B := B) (ts := ds.map PyData.shown) fun t ht => by
      obtain ⟨d, m, rfl⟩ := List.mem_map.mp ht
      exact (h d m).len
    rw [List.length_map] at h1
    have h2 : ds.length * (B + 2) ≤ n * (B + 2) := Nat.mul_le_mul_right _ hl
    rw [Nat.mul_add] at h2
    omega
  · simp only [PyData.showable]
    exact showAll_of fun d m => (h d m).sh
  · simp only [PyData.depth]
    have := depthAll_of fun d m => (h d m).dp
    omega
theorem Drw.some {d c e : Addr} {t : Int} {H : Hp} (D : Drw H d c e t) {a : Addr} (b : Bd3 d c e a) : H a ≠ none := by
  obtain ⟨cells, rests, h1, h2, _⟩ := D.hc
  rcases b with z | z | z
  · subst z; rw [D.hd]; exact fun z => nomatch z
  · subst z; rw [h1]; exact fun z => nomatch z
  · subst z; rw [h2]; exact fun z => nomatch z
end OC
set_option Elab.async false
set_option linter.all false
set_option maxRecDepth 100000
set_option maxHeartbeats 2000000
/-! errors of classes of one's own, made without an argument; defs that may raise, by name -/
namespace OC
open PySem PySem.Spec PyProof.Rows L2
section
variable {X : Cx} {C : Addr} {bmB : List Value} {B newId initId : String}
theorem pmk_own0 {x : Str} {p pos : Pos} (F : ExcBaseFacts B newId initId bmB) (q : PySem.W.excIn X.K C bmB newId = true) (gC : X.mg x = some (.ref C)) (kC : PySem.W.keepIn X.K (.ref C) = true) (r : Raises X (.ref C)) (hg : Gl X x)
    (hdb : (x == ("__debug__" : Str)) = false := by decide) : PMk X (.Call (.Name x p) [] [] pos) (fun _ H Q => Q (.ref C) none H) := by
  intro pins s σ H Q I h
  refine wpAny_Call_Name_kw (ld_glob I hg gC ?_ hdb)
  obtain ⟨bm, N, nm, qn, bs, hdct, sn, sub, ab, col, dd, k0, k1, k2, k3, k5, mN, hC, hN, hni, T⟩ := exc_obj I.kIn q
  exact PySem.W.callWith_K0 I.kIn kC (wpAny_call_exc_subT F T hC hN hni (fun h' e hm => mk_of I hm r h (I.hok.gone hm.new)) (Nat.zero_le _))
end
/-- as Ok, for a def that may raise -/
structure OkX (P : Program) (w : World) (K : PySem.W.Frag) (mg : Str → Option Value) (base : Heap) (k : Nat) (x : Str) (ps : List Str) (sp : Sp) : Prop where
  ex : ∃ (f : Addr) (fd : FuncData), FnOk P w K mg base (L2.CX P w) k f fd ps sp ∧ mg x = some (.ref f) ∧ PySem.W.keepIn K (.ref f) = true ∧ Binds K fd ps []
section
variable {P : Program} {w : World} {K : PySem.W.Frag} {mg : Str → Option Value} {base : Heap}
theorem Df.okX {x : Str} {st : Stmt} {N ps : List Str} {k : Nat} {sp : Sp} (D : Df K mg x st ps) (S : FnScope N ps (defScope st)) (len : ∀ vs H Q E, sp vs H Q E → vs.length = ps.length)
    (hbody : ∀ (f : Addr) (cdv : Value) (A : Around) (outer : List Env) (s : Shared) (H : Hp) (vs : List V) (Q : VK) (E : XK), Room k (A.deeper (envOfC x (defScope st) s.heap.objs.size f cdv)) → sp vs H Q E →
      ∃ t, PSs (cxOf (L2.CX P w) P w K mg base N x (defScope st) f cdv A outer s H E) (defBody st) t ∧ t { nx := fun _ H' => Q .non H', rt := Q } (start N vs) H) : OkX P w K mg base (k + 1) x ps sp := by
  obtain ⟨f, fd, F, b, g⟩ := D.ex
  exact ⟨f, fd, F.okX S len (hbody f), g, F.kp, b⟩
theorem OkX.mono {x : Str} {ps : List Str} {j k : Nat} {sp : Sp} (O : OkX P w K mg base j x ps sp) (h : j ≤ k) : OkX P w K mg base k x ps sp := by
  obtain ⟨f, fd, F, r⟩ := O.ex
  exact ⟨f, fd, F.mono h, r⟩
end
section
variable {X : Cx} {x : Str} {ps : List Str} {k : Nat} {sp : Sp}
/-- a call where nothing may be raised: the promise is taken at the word that no error comes -/
theorem pe_callX0 {e : Expr} {es : List Expr} {t : TA} {p pos : Pos} (O : OkX X.prog X.w X.K X.mg X.base k x ps sp) (hr : Room k X.A) (hg : Gl X x) (ha : PA X (e :: es) t) (hdb : (x == ("__debug__" : Str)) = false := by decide)
    (he : starEach (e :: es) X.env = (false, eval e X.env) :: starEach es X.env := by rfl) (hpl : (backTo pos (starEach es X.env)).any (·.1) = false := by rfl) :
    PE X (.Call (.Name x p) (e :: es) [] pos) (tCall sp [] E0 t) := by
  obtain ⟨f, fd, F, g, kp, b⟩ := O.ex
  exact pe_call F hr hg g kp b .nil passL ha hdb he hpl
/-- a call in a try's body: W is what the clauses wish of an error -/
theorem pe_callX {W : WX} {e : Expr} {es : List Expr} {t : TA} {p pos : Pos} (O : OkX X.prog X.w X.K X.mg X.base k x ps sp) (tk : Takes X W) (hr : Room k X.A) (hg : Gl X x) (ha : PA X (e :: es) t) (hdb : (x == ("__debug__" : Str)) = false := by decide)
    (he : starEach (e :: es) X.env = (false, eval e X.env) :: starEach es X.env := by rfl) (hpl : (backTo pos (starEach es X.env)).any (·.1) = false := by rfl) :
    PE X (.Call (.Name x p) (e :: es) [] pos) (tCallS sp (WE W) t) := by
  obtain ⟨f, fd, F, g, kp, b⟩ := O.ex
  exact pe_callS F hr hg g kp b (fun σ => passAt tk σ) ha hdb he hpl
end
end OC
set_option Elab.async false
set_option linter.all false
set_option maxRecDepth 100000
set_option maxHeartbeats 2000000
/-! zip of a list and a tuple -/
set_option Elab.async false
set_option linter.all false
set_option maxRecDepth 100000
set_option maxHeartbeats 2000000
/-! t.index(i) of a tuple of ints -/
set_option Elab.async false
set_option linter.all false
set_option maxRecDepth 100000
set_option maxHeartbeats 4000000
namespace OC
open PySem PySem.Spec PyProof.Rows L2
/-! ### tuples that are known to have no dict: their methods -/
def TupF (H : Hp) (l : Addr) (xs : List V) : Prop := ∃ o : Obj, o.dict = none ∧ H l = some (.frz o (.tup xs))
theorem TupF.sq {K : PySem.W.Frag} {H : Hp} {l : Addr} {xs : List V} (h : TupF H l xs) : SqT K H l xs := by
  obtain ⟨o, _, h⟩ := h
  exact .inl (.inr ⟨o, h⟩)
theorem TupF.same {H H' : Hp} {l : Addr} {xs : List V} (s : Same H H') (h : TupF H l xs) : TupF H' l xs := by
  obtain ⟨o, n, h⟩ := h
  exact ⟨o, n, s _ _ h⟩
end OC
set_option Elab.async false
set_option linter.all false
set_option maxRecDepth 100000
set_option maxHeartbeats 4000000
set_option Elab.async false
set_option linter.all false
set_option maxRecDepth 100000
set_option maxHeartbeats 4000000
/-! asides: a call that tells the one and not the other -/
set_option Elab.async false
set_option linter.all false
set_option maxRecDepth 100000
set_option maxHeartbeats 4000000
/-! dict() of a tuple of pairs -/
set_option Elab.async false
set_option linter.all false
set_option maxRecDepth 100000
set_option maxHeartbeats 4000000
/-! asides: all calls of a room by five -/
namespace OC
open PySem PySem.Spec PyProof.Rows L2
/-! ### a stand taken by five -/
/-! ### the rooms by their names -/
/-- a dict that holds a room for each of those names -/
def RoomsD (K : PySem.W.Frag) (H : Hp) (o : Addr) (hs : List (Str × List (List Int))) : Prop := ∃ kvs : List (L2.Key × V), H o = some (.dK kvs) ∧ ∀ h ∈ hs, ∃ r, valV kvs (.inr h.1) = some (.ref r) ∧ RowsAt K H r h.2
theorem rowsAt_tk {K : PySem.W.Frag} {H H' : Hp} {a : Addr} {rs : List (List Int)} (k : Tk H H') (h : RowsAt K H a rs) : RowsAt K H' a rs := by
  obtain ⟨ws, h1, h2⟩ := h
  exact ⟨ws, k _ _ _ h1, dpAll_tk k _ _ (noL_rows _) h2⟩
theorem RoomsD.same {K : PySem.W.Frag} {H H' : Hp} {o : Addr} {hs : List (Str × List (List Int))} (s : Same H H') (h : RoomsD K H o hs) : RoomsD K H' o hs := by
  obtain ⟨kvs, h1, h2⟩ := h
  refine ⟨kvs, s _ _ h1, fun x hx => ?_⟩
  obtain ⟨r, h3, h4⟩ := h2 x hx
  exact ⟨r, h3, rowsAt_tk (Tk.of s) h4⟩
theorem RoomsD.kept {K : PySem.W.Frag} {H H' : Hp} {o d c : Addr} {t : Int} {hs : List (Str × List (List Int))} (D : Deck H d c t) (k : Kept d c H H') (h : RoomsD K H o hs) : RoomsD K H' o hs := by
  obtain ⟨kvs, h1, h2⟩ := h
  refine ⟨kvs, k _ _ h1 (fun z => by subst z; rw [D.hd] at h1; cases h1) (fun z => by subst z; obtain ⟨_, hc, _⟩ := D.hc; rw [hc] at h1; cases h1), fun x hx => ?_⟩
  obtain ⟨r, h3, h4⟩ := h2 x hx
  exact ⟨r, h3, rowsAt_tk (Tk.kept D k) h4⟩
/-- the stand by five, whose hands' tuple has no dict -/
def FiveAt (K : PySem.W.Frag) (H : Hp) (a : Addr) (n : Nat) (kn : List (List Int)) (hs : List (Str × List (List Int))) : Prop := ∃ (k g : Addr) (ws : List V), SqT K H a [.int 5, .int (n : Int), .ref k, .ref g] ∧ RowsAt K H k kn ∧ TupF H g ws ∧ DpAll K H ws (hs.map handD)
theorem FiveAt.same {K : PySem.W.Frag} {H H' : Hp} {a : Addr} {n : Nat} {kn : List (List Int)} {hs : List (Str × List (List Int))} (s : Same H H') (h : FiveAt K H a n kn hs) : FiveAt K H' a n kn hs := by
  obtain ⟨k, g, ws, h1, h2, h3, h4⟩ := h
  exact ⟨k, g, ws, Same.tup s h1, rowsAt_tk (Tk.of s) h2, h3.same s, dpAll_same s _ _ h4⟩
theorem FiveAt.kept {K : PySem.W.Frag} {H H' : Hp} {a d c : Addr} {t : Int} {n : Nat} {kn : List (List Int)} {hs : List (Str × List (List Int))} (D : Deck H d c t) (e : Kept d c H H') (h : FiveAt K H a n kn hs) : FiveAt K H' a n kn hs := by
  obtain ⟨k, g, ws, h1, h2, ⟨o, h5, h3⟩, h4⟩ := h
  refine ⟨k, g, ws, Kept.tup D e h1, rowsAt_tk (Tk.kept D e) h2, ⟨o, h5, e _ _ h3 (fun z => by subst z; rw [D.hd] at h3; cases h3) (fun z => by subst z; obtain ⟨_, hc, _⟩ := D.hc; rw [hc] at h3; cases h3)⟩, dpAll_tk (Tk.kept D e) _ _ (noL_hands _) h4⟩
theorem FiveAt.dp {K : PySem.W.Frag} {H : Hp} {a : Addr} {n : Nat} {kn : List (List Int)} {hs : List (Str × List (List Int))} (h : FiveAt K H a n kn hs) : Dp K H (.ref a) (standD 5 n kn hs) := by
  obtain ⟨k, g, ws, h1, ⟨wk, h2, h3⟩, h4, h5⟩ := h
  exact .tup h1 (.cons (.int 5) (.cons (.int n) (.cons (.tup h2 h3) (.cons (.tup h4.sq h5) .nil))))
end OC
set_option Elab.async false
set_option linter.all false
set_option maxRecDepth 100000
set_option maxHeartbeats 2000000
/-! zip of a tuple and a list -/
set_option Elab.async false
set_option linter.all false
set_option maxRecDepth 100000
set_option maxHeartbeats 4000000
set_option Elab.async false
set_option linter.all false
set_option maxRecDepth 100000
set_option maxHeartbeats 4000000
/-! a stand whose hands' tuple has no dict, and its rooms by their names -/
namespace OC
open PySem PySem.Spec PyProof.Rows L2
def StandAt (K : PySem.W.Frag) (H : Hp) (a : Addr) (p : Int) (n : Nat) (kn : List (List Int)) (hs : List (Str × List (List Int))) : Prop := ∃ (k g : Addr) (ws : List V), SqT K H a [.int p, .int (n : Int), .ref k, .ref g] ∧ RowsAt K H k kn ∧ TupF H g ws ∧ DpAll K H ws (hs.map handD)
section
variable {K : PySem.W.Frag} {H H' : Hp} {a d c o : Addr} {t p : Int} {n : Nat} {kn : List (List Int)} {hs : List (Str × List (List Int))}
theorem StandAt.same (s : Same H H') (h : StandAt K H a p n kn hs) : StandAt K H' a p n kn hs := by
  obtain ⟨k, g, ws, h1, h2, h3, h4⟩ := h
  exact ⟨k, g, ws, Same.tup s h1, rowsAt_tk (Tk.of s) h2, h3.same s, dpAll_same s _ _ h4⟩
theorem StandAt.kept (D : Deck H d c t) (e : Kept d c H H') (h : StandAt K H a p n kn hs) : StandAt K H' a p n kn hs := by
  obtain ⟨k, g, ws, h1, h2, ⟨o, h5, h3⟩, h4⟩ := h
  refine ⟨k, g, ws, Kept.tup D e h1, rowsAt_tk (Tk.kept D e) h2, ⟨o, h5, e _ _ h3 (fun z => by subst z; rw [D.hd] at h3; cases h3) (fun z => by subst z; obtain ⟨_, hc, _⟩ := D.hc; rw [hc] at h3; cases h3)⟩, dpAll_tk (Tk.kept D e) _ _ (noL_hands _) h4⟩
theorem StandAt.dp (h : StandAt K H a p n kn hs) : Dp K H (.ref a) (standD p n kn hs) := by
  obtain ⟨k, g, ws, h1, ⟨wk, h2, h3⟩, h4, h5⟩ := h
  exact .tup h1 (.cons (.int p) (.cons (.int n) (.cons (.tup h2 h3) (.cons (.tup h4.sq h5) .nil))))
end
end OC
set_option Elab.async false
set_option linter.all false
set_option maxRecDepth 100000
set_option maxHeartbeats 4000000
/-! max(xs, key=lambda x: x[0]) over a list of new tuples whose first thing is a whole number -/
namespace OC
open PySem PySem.Spec PyProof.Rows L2 LamX
/-- all but the frames' slots is as it was -/
structure Still (fs : List Addr) (h h' : Heap) : Prop where
  keep : ∀ b o, h.get? b = some o → b ∉ fs → h'.get? b = some o
  slot : ∀ b o, h.get? b = some o → ∃ sl, h'.get? b = some { o with slots := sl }
theorem Still.refl (fs : List Addr) (h : Heap) : Still fs h h := ⟨fun _ _ e _ => e, fun _ o e => ⟨o.slots, e⟩⟩
theorem Still.trans {fs : List Addr} {h h1 h2 : Heap} (a : Still fs h h1) (b : Still fs h1 h2) : Still fs h h2 := ⟨fun x o e n => b.keep x o (a.keep x o e n) n, fun x o e => by
  obtain ⟨s1, e1⟩ := a.slot x o e
  obtain ⟨s2, e2⟩ := b.slot x _ e1
  exact ⟨s2, e2⟩⟩
theorem Still.of {fs : List Addr} {h h' : Heap} (k : ∀ b o, h.get? b = some o → h'.get? b = some o) : Still fs h h' := ⟨fun b o e _ => k b o e, fun b o e => ⟨o.slots, k b o e⟩⟩
end OC
set_option Elab.async false
set_option linter.all false
set_option maxRecDepth 100000
set_option maxHeartbeats 2000000
/-! tables of code objects: what stays where a lambda is made; the end with one table and the modules' dict -/
namespace OC
open PySem PySem.Spec PyProof.Rows L2 LamX
/-! ### what stays -/
theorem ExtN.same {H H' : Hp} (e : Same H H') : ExtN H H' := fun b o h _ => e b o h
theorem ExtN.lst {H H' : Hp} (e : ExtN H H') {a : Addr} {xs : List V} (h : H a = some (.lst xs)) : H' a = some (.lst xs) := e _ _ h fun ps z => by cases z
theorem ExtN.tup {H H' : Hp} (e : ExtN H H') {a : Addr} {xs : List V} (h : H a = some (.tup xs)) : H' a = some (.tup xs) := e _ _ h fun ps z => by cases z
/-- all but the deck's two lists and the tables stays -/
def KeptN (d c : Addr) (H H' : Hp) : Prop := ∀ b o, H b = some o → b ≠ d → b ≠ c → (∀ ps, o ≠ .tbl ps) → H' b = some o
theorem KeptN.refl (d c : Addr) (H : Hp) : KeptN d c H H := fun _ _ h _ _ _ => h
theorem KeptN.trans {d c : Addr} {H H1 H2 : Hp} (a : KeptN d c H H1) (b : KeptN d c H1 H2) : KeptN d c H H2 := fun x o h n m t => b x o (a x o h n m t) n m t
theorem KeptN.of {d c : Addr} {H H' : Hp} (a : Kept d c H H') : KeptN d c H H' := fun x o h n m _ => a x o h n m
theorem KeptN.ext {d c : Addr} {H H' : Hp} (a : ExtN H H') : KeptN d c H H' := fun x o h _ _ t => a x o h t
section
variable {T : List (Addr × Str)} {H H' : Hp}
theorem Tabs.same (t : Tabs T H) (e : Same H H') : Tabs T H' := t.ext e
/-- tables stay where all but two lists stays -/
theorem Tabs.kept {d c : Addr} {xs ys : List V} (t : Tabs T H) (hd : H d = some (.lst xs)) (hc : H c = some (.lst ys)) (k : Kept d c H H') : Tabs T H' := fun p hp => by
  obtain ⟨ps, h1, h2, h3⟩ := t p hp
  have nd : ∀ {b : Addr} {o : HO}, H b = some o → (∀ zs, o ≠ .lst zs) → b ≠ d ∧ b ≠ c := fun {b o} e n => ⟨fun z => by
    rw [z, hd] at e
    exact n _ (Option.some.inj e).symm, fun z => by
    rw [z, hc] at e
    exact n _ (Option.some.inj e).symm⟩
  obtain ⟨n1, n2⟩ := nd h1 (fun zs z => by cases z)
  refine ⟨ps, k _ _ h1 n1 n2, h2, fun pos cv hcv => ?_⟩
  obtain ⟨co, e1, e2⟩ := h3 pos cv hcv
  obtain ⟨m1, m2⟩ := nd e2 (fun zs z => by
    unfold CodeO at z
    cases z)
  exact ⟨co, e1, k _ _ e2 m1 m2⟩
end
/-! ### the end -/
end OC
set_option Elab.async false
set_option linter.all false
set_option maxRecDepth 100000
set_option maxHeartbeats 4000000
/-! a def whose code object is known -/
namespace OC
open PySem PySem.Spec PyProof.Rows L2 LamX
/-- a def by name, its code object at c -/
structure DfC (K : PySem.W.Frag) (mg : Str → Option Value) (x : Str) (st : Stmt) (ps : List Str) (c : Addr) : Prop where
  ex : ∃ (f : Addr) (oc : Value) (od an : Option Addr) (kV doc pm ct : Value) (osl : Array (Option Value)),
    K.lookup f = some ⟨oc, od, .func (PySem.W.fnOf x x (defArgs st) (defBody st) (defScope st) .none kV doc pm an (.ref c) ct), osl⟩ ∧ PySem.W.codeIn K (.ref c) x = true ∧ PySem.W.keepIn K (.ref f) = true ∧ mg x = some (.ref f) ∧
    Binds K (PySem.W.fnOf x x (defArgs st) (defBody st) (defScope st) .none kV doc pm an (.ref c) ct) ps []
section
variable {P : Program} {w : World} {K : PySem.W.Frag} {mg : Str → Option Value} {base : Heap}
theorem DfC.ok {x : Str} {st : Stmt} {N ps : List Str} {k : Nat} {c : Addr} {sp : Sp} (D : DfC K mg x st ps c) (S : FnScope N ps (defScope st)) (len : ∀ vs H Q E, sp vs H Q E → vs.length = ps.length)
    (hbody : ∀ (f : Addr) (A : Around) (outer : List Env) (s : Shared) (H : Hp) (vs : List V) (Q : VK) (E : XK), Room k (A.deeper (envOfC x (defScope st) s.heap.objs.size f (.ref c))) → sp vs H Q E →
      ∃ t, PSs (cxOf CX0 P w K mg base N x (defScope st) f (.ref c) A outer s H E).nox (defBody st) t ∧ t { nx := fun _ H' => Q .non H', rt := Q } (start N vs) H) : Ok P w K mg base (k + 1) x ps sp := by
  obtain ⟨f, oc, od, an, kV, doc, pm, ct, osl, lk, hc, hk, hm, hb⟩ := D.ex
  refine ⟨f, _, fn_of (CX := CX0) lk hc S len fun A outer s H vs Q E hr hsp => ?_, hm, hk, hb⟩
  obtain ⟨t, ht, hq⟩ := hbody f A outer s H vs Q E hr hsp
  exact ⟨t, ht.nox, hq⟩
end
end OC
set_option Elab.async false
set_option linter.all false
set_option maxRecDepth 100000
set_option maxHeartbeats 4000000
/-! defs with one keyword-only parameter that is None where it is not written -/
namespace OC
open PySem PySem.Spec PyProof.Rows L2
structure DfD (K : PySem.W.Frag) (mg : Str → Option Value) (x : Str) (st : Stmt) (ps : List Str) (dvs : List V) : Prop where
  ex : ∃ (f : Addr) (fd : FuncData) (ds : List Value), Fun K x x st f fd ∧ Vals dvs ds ∧ Binds K fd ps ds ∧ mg x = some (.ref f)
structure OkD (P : Program) (w : World) (K : PySem.W.Frag) (mg : Str → Option Value) (base : Heap) (k : Nat) (x : Str) (ps : List Str) (dvs : List V) (sp : Sp) : Prop where
  ex : ∃ (f : Addr) (fd : FuncData) (ds : List Value), FnOk P w K mg base CX0 k f fd ps sp ∧ mg x = some (.ref f) ∧ PySem.W.keepIn K (.ref f) = true ∧ Vals dvs ds ∧ Binds K fd ps ds
section
variable {P : Program} {w : World} {K : PySem.W.Frag} {mg : Str → Option Value} {base : Heap}
theorem DfD.ok {x : Str} {st : Stmt} {N ps : List Str} {dvs : List V} {k : Nat} {sp : Sp} (D : DfD K mg x st ps dvs) (S : FnScope N ps (defScope st)) (len : ∀ vs H Q E, sp vs H Q E → vs.length = ps.length)
    (hbody : ∀ (f : Addr) (cdv : Value) (A : Around) (outer : List Env) (s : Shared) (H : Hp) (vs : List V) (Q : VK) (E : XK), Room k (A.deeper (envOfC x (defScope st) s.heap.objs.size f cdv)) → sp vs H Q E →
      ∃ t, PSs (cxOf CX0 P w K mg base N x (defScope st) f cdv A outer s H E).nox (defBody st) t ∧ t { nx := fun _ H' => Q .non H', rt := Q } (start N vs) H) : OkD P w K mg base (k + 1) x ps dvs sp := by
  obtain ⟨f, fd, ds, F, v, b, g⟩ := D.ex
  exact ⟨f, fd, ds, F.ok S len (hbody f), g, F.kp, v, b⟩
theorem OkD.mono {x : Str} {ps : List Str} {dvs : List V} {j k : Nat} {sp : Sp} (O : OkD P w K mg base j x ps dvs sp) (h : j ≤ k) : OkD P w K mg base k x ps dvs sp := by
  obtain ⟨f, fd, ds, F, r⟩ := O.ex
  exact ⟨f, fd, ds, F.mono h, r⟩
end
end OC
set_option Elab.async false
set_option linter.all false
set_option maxRecDepth 100000
set_option maxHeartbeats 4000000
/-! defs whose keyword-only parameter is written; t.count(x) of a tuple of texts -/
namespace OC
open PySem PySem.Spec PyProof.Rows L2
structure OkK (P : Program) (w : World) (K : PySem.W.Frag) (mg : Str → Option Value) (base : Heap) (k : Nat) (x : Str) (ps : List Str) (n : Nat) (ks : List Str) (sp : Sp) : Prop where
  ex : ∃ (f : Addr) (fd : FuncData), FnOk P w K mg base CX0 k f fd ps sp ∧ mg x = some (.ref f) ∧ PySem.W.keepIn K (.ref f) = true ∧ KBn K fd ps n ks (fun us ws => us ++ ws) (fun vs zs => vs ++ zs)
section
variable {P : Program} {w : World} {K : PySem.W.Frag} {mg : Str → Option Value} {base : Heap}
theorem OkK.mono {x : Str} {ps : List Str} {n : Nat} {ks : List Str} {j k : Nat} {sp : Sp} (O : OkK P w K mg base j x ps n ks sp) (h : j ≤ k) : OkK P w K mg base k x ps n ks sp := by
  obtain ⟨f, fd, F, r⟩ := O.ex
  exact ⟨f, fd, F.mono h, r⟩
end
/-! ### t.count(x) -/
end OC
set_option Elab.async false
set_option linter.all false
set_option maxRecDepth 100000
set_option maxHeartbeats 2000000
/-! classes of errors of one's own, by name; a caught one asked after; a def that catches what a lambda raises -/
namespace OC
open PySem PySem.Spec PyProof.Rows L2
/-- where the class of this name stands -/
def adr (mg : Str → Option Value) (x : Str) : Addr := match mg x with | some (.ref a) => a | _ => 0
theorem adr_of {mg : Str → Option Value} {x : Str} {C : Addr} (h : mg x = some (.ref C)) : adr mg x = C := by
  unfold adr
  rw [h]
structure ErrC (K : PySem.W.Frag) (mg : Str → Option Value) (x : Str) : Prop where
  g : mg x = some (.ref (adr mg x))
  kp : PySem.W.keepIn K (.ref (adr mg x)) = true
  b : PySem.W.subIn K (.ref (adr mg x)) (.type "BaseException") = some true
  t : PySem.W.typeIn K (.ref (adr mg x)) = some (.type "type")
  d : PySem.W.hasDictIn K (adr mg x) = true
  c : ExcC K (adr mg x)
theorem err_of {K : PySem.W.Frag} {h : Heap} {mg : Str → Option Value} {x : Str} {C : Addr} (X : K.In h) (G : h.Ns mainGlobals mg) (a : PySem.W.nsIn K mainGlobals x = some (some (.ref C)))
    (kp : PySem.W.keepIn K (.ref C) = true) (b : PySem.W.subIn K (.ref C) (.type "BaseException") = some true) (t : PySem.W.typeIn K (.ref C) = some (.type "type")) (d : PySem.W.hasDictIn K C = true)
    (hg : PySem.W.findIn K (.ref C) "__getattribute__" = some (some (.builtin "BaseException.__getattribute__"))) (hk : PySem.W.findIn K (.ref C) "__getattr__" = some none) (ha : PySem.W.findIn K (.ref C) "__class__" = some (some (.builtin "object.__class__")))
    (hm : PySem.W.mroIn K C (.type "object") = some true) (hn : PySem.W.specialIn K (.builtin "object.__class__") "__get__" = some (some (.builtin "getset_descriptor.__get__"))) (ht : PySem.W.takesIn K (.builtin "object.__class__") = some true) : ErrC K mg x := by
  have g := PySem.W.mg_of X G a
  have e := adr_of g
  refine ⟨by rw [e]; exact g, ?_, ?_, ?_, ?_, ?_⟩ <;> rw [e]
  · exact kp
  · exact b
  · exact t
  · exact d
  · exact ⟨hg, hk, b, d, ha, hn, ht, hm⟩
section
variable {K : PySem.W.Frag} {mg : Str → Option Value} {x y : Str}
theorem ErrC.exm (E : ErrC K mg y) {b : Bool} (h : PySem.W.subIn K (.ref (adr mg x)) (.ref (adr mg y)) = some b) : PySem.W.exmOne K (.ref (adr mg x)) (.ref (adr mg y)) = some b :=
  PySem.W.exm_ref E.b E.d E.t h
theorem kit_cls1 {t : Value} (E : ErrC K mg y) {b : Bool} (h : PySem.W.subIn K t (.ref (adr mg y)) = some b) (hb : t = .ref (adr mg y) → b = true) : PySem.W.kitOne K t (.ref (adr mg y)) = some b := by
  obtain ⟨cd, hc, _⟩ := PySem.W.any_some E.d
  have e2 : ((PySem.W.clsIn K (adr mg y)).isSome && PySem.W.typeIn K (.ref (adr mg y)) == some (.type "type")) = true := by rw [hc, E.t] <;> rfl
  unfold PySem.W.kitOne
  by_cases ht : t = .ref (adr mg y)
  · rw [hb ht, ht, if_pos (beq_self_eq_true _)]
  · rw [if_neg (fun z => ht (eq_of_beq z))]
    show (if _ then PySem.W.subIn K t (.ref (adr mg y)) else none) = some b
    rw [if_pos e2]
    exact h
/-- of one class another, an own one -/
theorem kit_own (E : ErrC K mg y) {b : Bool} (h : PySem.W.subIn K (.ref (adr mg x)) (.ref (adr mg y)) = some b) (hb : adr mg x = adr mg y → b = true) : PySem.W.kitOne K (.ref (adr mg x)) (.ref (adr mg y)) = some b :=
  kit_cls1 E h fun z => hb (Value.ref.inj z)
/-- of one class a built-in one -/
theorem kit_blt {a : Addr} {T : String} {b : Bool} (hT : PySem.W.kitMeta T = true) (h : PySem.W.subIn K (.ref a) (.type T) = some b) : PySem.W.kitOne K (.ref a) (.type T) = some b := by
  unfold PySem.W.kitOne
  rw [if_neg (fun z => by cases eq_of_beq z)]
  show (if PySem.W.kitMeta T = true then PySem.W.subIn K (.ref a) (.type T) else none) = some b
  rw [if_pos hT]
  exact h
/-- apart where one is none of the other -/
theorem adr_ne {K : PySem.W.Frag} {a b : Addr} (h1 : PySem.W.subIn K (.ref a) (.ref b) = some false) (h2 : PySem.W.subIn K (.ref b) (.ref b) = some true) : a ≠ b := fun z => by
  rw [z, h2] at h1
  cases h1
end
/-- a reading under what it leans on -/
theorem pss_pre {X : Cx} {b : List Stmt} {p : Prop} {t : TS} (h : p → PSs X b t) : PSs X b (fun D σ H => p ∧ t D σ H) := ⟨fun pins s σ H D I ⟨hp, ht⟩ => (h hp).run pins s σ H D I ht⟩
end OC
set_option Elab.async false
set_option linter.all false
set_option maxRecDepth 100000
set_option maxHeartbeats 4000000
/-! classes of one's own and their methods, by name -/
namespace OC
open PySem PySem.Spec PyProof.Rows L2
/-- a method of the class c: m, by its full name q -/
structure DfM (K : PySem.W.Frag) (mg : Str → Option Value) (c m q : Str) (st : Stmt) (ps : List Str) (dvs : List V) : Prop where
  ex : ∃ (f : Addr) (fd : FuncData) (ds : List Value), Fun K m q st f fd ∧ Vals dvs ds ∧ Binds K fd ps ds ∧ Meth K (adr mg c) m f
structure OkM (P : Program) (w : World) (K : PySem.W.Frag) (mg : Str → Option Value) (base : Heap) (k : Nat) (c m : Str) (ps : List Str) (dvs : List V) (sp : Sp) : Prop where
  ex : ∃ (f : Addr) (fd : FuncData) (ds : List Value), FnOk P w K mg base CX0 k f fd ps sp ∧ Meth K (adr mg c) m f ∧ Vals dvs ds ∧ Binds K fd ps ds
section
variable {P : Program} {w : World} {K : PySem.W.Frag} {mg : Str → Option Value} {base : Heap}
theorem DfM.ok {c m q : Str} {st : Stmt} {N ps : List Str} {dvs : List V} {k : Nat} {sp : Sp} (D : DfM K mg c m q st ps dvs) (S : FnScope N ps (defScope st)) (len : ∀ vs H Q E, sp vs H Q E → vs.length = ps.length)
    (hbody : ∀ (f : Addr) (cdv : Value) (A : Around) (outer : List Env) (s : Shared) (H : Hp) (vs : List V) (Q : VK) (E : XK), Room k (A.deeper (envOfC q (defScope st) s.heap.objs.size f cdv)) → sp vs H Q E →
      ∃ t, PSs (cxOf CX0 P w K mg base N q (defScope st) f cdv A outer s H E).nox (defBody st) t ∧ t { nx := fun _ H' => Q .non H', rt := Q } (start N vs) H) : OkM P w K mg base (k + 1) c m ps dvs sp := by
  obtain ⟨f, fd, ds, F, v, b, g⟩ := D.ex
  exact ⟨f, fd, ds, F.ok S len (hbody f), g, v, b⟩
theorem OkM.mono {c m : Str} {ps : List Str} {dvs : List V} {j k : Nat} {sp : Sp} (O : OkM P w K mg base j c m ps dvs sp) (h : j ≤ k) : OkM P w K mg base k c m ps dvs sp := by
  obtain ⟨f, fd, ds, F, r⟩ := O.ex
  exact ⟨f, fd, ds, F.mono h, r⟩
end
/-- a method whose keyword-only parameters are written -/
structure OkMK (P : Program) (w : World) (K : PySem.W.Frag) (mg : Str → Option Value) (base : Heap) (k : Nat) (c m : Str) (ps : List Str) (n : Nat) (ks : List Str) (sp : Sp) : Prop where
  ex : ∃ (f : Addr) (fd : FuncData), FnOk P w K mg base CX0 k f fd ps sp ∧ Meth K (adr mg c) m f ∧ KBn K fd ps n ks (fun us ws => us ++ ws) (fun vs zs => vs ++ zs)
section
variable {P : Program} {w : World} {K : PySem.W.Frag} {mg : Str → Option Value} {base : Heap}
theorem OkMK.mono {c m : Str} {ps : List Str} {n : Nat} {ks : List Str} {j k : Nat} {sp : Sp} (O : OkMK P w K mg base j c m ps n ks sp) (h : j ≤ k) : OkMK P w K mg base k c m ps n ks sp := by
  obtain ⟨f, fd, F, r⟩ := O.ex
  exact ⟨f, fd, F.mono h, r⟩
end
/-! ### len(x) of an instance whose class has a __len__ of its own -/
/-! ### what the end tells of classes and methods -/
end OC
namespace OC
open PySem PySem.Spec PyProof.Rows L2
/-! ### constants of the module -/
theorem pe_cstr {X : Cx} {x : Str} {z : Str} {pos : Pos} (h : ∃ t, X.mg x = some (.str z t)) (hg : Gl X x) (hd : (x == ("__debug__" : Str)) = false := by decide) : PE X (.Name x pos) (tC (.str z)) := by
  obtain ⟨t, h⟩ := h
  exact pe_glob hg h ⟨t, rfl⟩ hd
end OC
set_option Elab.async false
set_option linter.all false
set_option maxRecDepth 100000
set_option maxHeartbeats 2000000
/-! numerals: which texts are numbers -/
namespace OC
open PySem PySem.Spec PyProof.Rows L2 TL
/-- the figures -/
def FG : Str := "0123456789"
def okf (c : Nat) : Bool := !(Builtin.Str.occurrences FG ⟨#[c]⟩ 0 FG.length 1).isEmpty
theorem okf_iff (c : Nat) : okf c = decide (48 ≤ c ∧ c ≤ 57) := by
  unfold okf
  rw [StrLaws.found_one]
  have e : FG.cps.toList = [48, 49, 50, 51, 52, 53, 54, 55, 56, 57] := by decide +kernel
  rw [e]
  refine decide_eq_decide.mpr ?_
  simp only [List.mem_cons, List.not_mem_nil, or_false]
  omega
theorem AllDigits.of {ds : List Nat} (h : ∀ c ∈ ds, 48 ≤ c ∧ c ≤ 57) : NumText.AllDigits ds := fun c hc => h c hc
theorem val_snoc (ds : List Nat) (c : Nat) : NumText.digitsVal (ds ++ [c]) = NumText.digitsVal ds * 10 + (c - 48) := by
  unfold NumText.digitsVal
  rw [List.foldl_append]
  rfl
/-- figures without a leading nought are those of their number -/
theorem fig_num : ∀ (r : List Nat), r ≠ [] → (∀ c ∈ r, 48 ≤ c ∧ c ≤ 57) → (r.length = 1 ∨ r.reverse.headD 0 ≠ 48) → numL (NumText.digitsVal r.reverse) = r.reverse ∧ (r.length ≠ 1 ∨ r ≠ [48] → r ≠ [48] → 1 ≤ NumText.digitsVal r.reverse)
  | [], h, _, _ => absurd rfl h
  | [c], _, h, _ => by
    have hc := h c List.mem_cons_self
    have e : NumText.digitsVal [c] = c - 48 := by
      have := val_snoc [] c
      simpa [NumText.digitsVal] using this
    show numL (NumText.digitsVal [c]) = [c] ∧ _
    rw [e, numL_lt (by omega)]
    refine ⟨by congr 1; omega, fun _ n => ?_⟩
    show 1 ≤ NumText.digitsVal [c]
    rw [e]
    have : c ≠ 48 := fun z => n (by rw [z])
    omega
  | c :: d :: r, _, h, hd => by
    have hc := h c List.mem_cons_self
    have hl : (d :: r).reverse.headD 0 ≠ 48 := by
      rcases hd with hd | hd
      · simp at hd
      · rw [List.reverse_cons] at hd
        have ne : (d :: r).reverse ≠ [] := by simp
        cases hq : (d :: r).reverse with
        | nil => exact absurd hq ne
        | cons x xs =>
          rw [hq] at hd
          exact hd
    have nz : (d :: r) ≠ [48] := fun z => hl (by rw [z]; rfl)
    obtain ⟨i1, i2⟩ := fig_num (d :: r) (by simp) (fun x hx => h x (List.mem_cons_of_mem _ hx)) (.inr hl)
    have v1 := i2 (.inr nz) nz
    rw [List.reverse_cons (a := c), val_snoc]
    generalize NumText.digitsVal (d :: r).reverse = v at i1 v1
    refine ⟨?_, fun _ _ => by omega⟩
    rw [numL_step (by omega), show (v * 10 + (c - 48)) / 10 = v by omega, i1, show 48 + (v * 10 + (c - 48)) % 10 = c by omega]
/-- whether a text is a numeral -/
def numB (z : Str) : Bool := ((decide (1 ≤ z.length) && decide (z.length ≤ 6)) && z.cps.toList.all okf) && (decide (z = "0") || !decide (z.cps.toList.headD 0 = 48))
def valN (z : Str) : Int := ((NumText.digitsVal z.cps.toList : Nat) : Int)
theorem numB_dig {z : Str} (h : numB z = true) : 1 ≤ z.length ∧ z.length ≤ 6 ∧ (∀ c ∈ z.cps.toList, 48 ≤ c ∧ c ≤ 57) ∧ (z = "0" ∨ z.cps.toList.headD 0 ≠ 48) := by
  unfold numB at h
  simp only [Bool.and_eq_true, decide_eq_true_eq, List.all_eq_true, Bool.or_eq_true, Bool.not_eq_true', decide_eq_false_iff_not] at h
  obtain ⟨⟨⟨h1, h2⟩, h3⟩, h4⟩ := h
  refine ⟨h1, h2, fun c hc => ?_, h4⟩
  have := h3 c hc
  rw [okf_iff] at this
  exact of_decide_eq_true this
theorem numB_int {z : Str} (h : numB z = true) : PySem.intText? z = some (valN z) := by
  obtain ⟨h1, h2, h3, _⟩ := numB_dig h
  exact intText_digits (AllDigits.of h3) (fun e => by
    have : z.cps.toList.length = z.length := Array.length_toList
    rw [e] at this
    simp at this
    omega) (by omega)
/-- the text of a rest -/
def txN (r : Int) : Str := Str.ofString (toString r)
/-- a numeral is the text of what it is worth -/
theorem num_txt {z : Str} (h : numB z = true) : z = txN (valN z) := by
  obtain ⟨h1, h2, h3, h4⟩ := numB_dig h
  have lz : z.cps.toList.length = z.length := Array.length_toList
  have ne : z.cps.toList ≠ [] := fun e => by rw [e] at lz; simp at lz; omega
  have key : numL (NumText.digitsVal z.cps.toList) = z.cps.toList := by
    have := fig_num z.cps.toList.reverse (by simpa using ne) (fun c hc => h3 c (List.mem_reverse.mp hc)) (by
      rw [List.reverse_reverse, List.length_reverse]
      rcases h4 with rfl | h4
      · left
        decide +kernel
      · exact .inr h4)
    rw [List.reverse_reverse] at this
    exact this.1
  have e : (txN (valN z)).cps.toList = z.cps.toList := by
    show tl (txN (valN z)) = _
    unfold txN valN
    rw [tl_num, key]
  have e2 : z.cps = (txN (valN z)).cps := by
    apply Array.toList_inj.mp
    exact e.symm
  cases z
  cases hq : txN (valN ⟨_⟩)
  rw [hq] at e2
  exact congrArg Str.mk e2
theorem txN_num {r : Nat} (h : r < 1000) : numB (txN (r : Int)) = true ∧ valN (txN (r : Int)) = (r : Int) := by
  have e : (txN (r : Int)).cps.toList = numL r := tl_num r
  have l3 : (numL r).length ≤ 3 := numL_len (by decide) h
  have lz : (txN (r : Int)).cps.toList.length = (txN (r : Int)).length := Array.length_toList
  have l1 : 1 ≤ (numL r).length := List.length_pos_iff.mpr (numL_ne r)
  rw [e] at lz
  have hv : valN (txN (r : Int)) = (r : Int) := by
    unfold valN
    rw [e, numL_val]
  refine ⟨?_, hv⟩
  unfold numB
  rw [e, ← lz, decide_eq_true l1, decide_eq_true (show (numL r).length ≤ 6 by omega)]
  have a : (numL r).all okf = true := List.all_eq_true.mpr fun c hc => by
    rw [okf_iff]
    exact decide_eq_true (numL_digits r c hc)
  rw [a]
  by_cases h10 : r < 10
  · by_cases h0 : r = 0
    · subst h0
      rw [decide_eq_true (show txN ((0 : Nat) : Int) = "0" by decide +kernel)]
      rfl
    · rw [numL_lt h10]
      have : ¬ (48 + r = 48) := by omega
      simp [h0]
  · have hd : ∀ n : Nat, 1 ≤ n → (numL n).headD 0 ≠ 48 := fun n => by
      induction n using Nat.strongRecOn with
      | _ n ih =>
        intro hn
        by_cases hh : n < 10
        · rw [numL_lt hh]
          show 48 + n ≠ 48
          omega
        · rw [numL_step (by omega)]
          have i := ih (n / 10) (by omega) (by omega)
          cases hq : numL (n / 10) with
          | nil => exact absurd hq (numL_ne _)
          | cons x xs =>
            rw [hq] at i
            exact i
    rw [decide_eq_false (hd r (by omega))]
    simp
/-- the texts of rests are the numerals below the prime -/
theorem num_iff {p : Int} {z : Str} (p0 : p ≤ 1000) : (numB z = true ∧ valN z < p) ↔ ∃ r : Nat, (r : Int) < p ∧ z = txN (r : Int) := by
  constructor
  · rintro ⟨h, hv⟩
    exact ⟨NumText.digitsVal z.cps.toList, hv, num_txt h⟩
  · rintro ⟨r, hr, rfl⟩
    obtain ⟨a, b⟩ := txN_num (r := r) (by omega)
    exact ⟨a, by rw [b]; exact hr⟩
end OC
set_option Elab.async false
set_option linter.all false
set_option maxRecDepth 100000
set_option maxHeartbeats 2000000
/-! things told one behind another, the first of them made with a written text: behind it a token is out, as replace asks -/
namespace OC
open PySem PySem.Spec PyProof.Rows L2
section
variable {X : Cx} {e : Expr} {es : List Expr} {te : TE} {ta : TA} {c : Str} {j : Nat} {p pos : Pos} {op : Operator} {r : R2}
theorem pa_opT (ho : OpR X (binaryOp op) r) (he : PE X e te) (hr : PAT X es ta)
    (hs : starEach (.BinOp e op (.Constant (.str c) j p) pos :: es) X.env = (false, eval (.BinOp e op (.Constant (.str c) j p) pos) X.env) :: starEach es X.env := by rfl) : PA X (.BinOp e op (.Constant (.str c) j p) pos :: es) (tCons (tOp r te (tC (.str c))) ta) := by
  refine ⟨fun bpos pins s σ H Q I h => ?_⟩
  rw [hs]
  show wpAny _ _ (spliced ((false, eval _ X.env) :: backTo bpos (starEach es X.env))) _ _ s
  refine Calls.spliced_cons (wpAny_BinOp (thn (he.run pins s σ H _ I h) fun v s1 hv => ?_))
  obtain ⟨x, H1, I1, r1, q1⟩ := hv
  refine Calls.Constant_str ?_
  refine wpAny_mono (PySem.wpAny_toks (ho pins { s1 with toks := s1.toks + 1 } σ H1 x (.str c) v (.str c s1.toks) _ (I1.tok _) r1 ⟨_, rfl⟩ q1)) (fun u s2 q => ?_) fun _ _ z => z.2
  obtain ⟨hk, y, H2, I2, r2, q2⟩ := q
  have h0 : 1 ≤ s2.toks := by
    have : s1.toks + 1 ≤ s2.toks := hk
    omega
  exact thn (hr bpos pins s2 σ H2 _ h0 I2 q2) fun us s3 ⟨xs, H3, I3, r3, q3⟩ => ⟨y :: xs, H3, I3, .cons r2 r3, q3⟩
theorem pat_of {e : Expr} {es : List Expr} {te : TE} {ta : TA} (he : PE X e te) (hr : PAT X es ta) (hs : starEach (e :: es) X.env = (false, eval e X.env) :: starEach es X.env := by rfl) : PAT X (e :: es) (tCons te ta) := pat_cons (CwR.PET.of he) hr hs
end
end OC
set_option Elab.async false
set_option linter.all false
set_option maxRecDepth 100000
set_option maxHeartbeats 4000000
namespace OC
open PySem PySem.Spec PyProof.Rows L2
def topS (i : Nat) : Stmt := PySem.Challenge.pw_opencalls_k70_rows_as_texts.main.body.getD i (.Pass ⟨0, 0, 0, 0⟩)
abbrev s_is_number : Stmt := topS 5
abbrev N_is_number : List Str := ["thing"]
theorem sc_is_number : FnScope N_is_number ["thing"] (defScope s_is_number) := ⟨rfl, rfl, rfl, by decide +kernel, rfl, by decide +kernel, by decide +kernel⟩
abbrev s_is_rest : Stmt := topS 6
abbrev N_is_rest : List Str := ["p", "thing"]
theorem sc_is_rest : FnScope N_is_rest ["p", "thing"] (defScope s_is_rest) := ⟨rfl, rfl, rfl, by decide +kernel, rfl, by decide +kernel, by decide +kernel⟩
abbrev s_is_row : Stmt := topS 8
abbrev N_is_row : List Str := ["p", "n", "thing", "part"]
theorem sc_is_row : FnScope N_is_row ["p", "n", "thing"] (defScope s_is_row) := ⟨rfl, rfl, rfl, by decide +kernel, rfl, by decide +kernel, by decide +kernel⟩
abbrev s_is_numeral : Stmt := topS 11
abbrev N_is_numeral : List Str := ["text", "sign"]
theorem sc_is_numeral : FnScope N_is_numeral ["text"] (defScope s_is_numeral) := ⟨rfl, rfl, rfl, by decide +kernel, rfl, by decide +kernel, by decide +kernel⟩
abbrev s_read_numbers : Stmt := topS 12
abbrev N_read_numbers : List Str := ["words", "word"]
theorem sc_read_numbers : FnScope N_read_numbers ["words"] (defScope s_read_numbers) := ⟨rfl, rfl, rfl, by decide +kernel, rfl, by decide +kernel, by decide +kernel⟩
abbrev s_row_text : Stmt := topS 13
abbrev N_row_text : List Str := ["row", "rest"]
theorem sc_row_text : FnScope N_row_text ["row"] (defScope s_row_text) := ⟨rfl, rfl, rfl, by decide +kernel, rfl, by decide +kernel, by decide +kernel⟩
abbrev s_read_row : Stmt := topS 14
abbrev N_read_row : List Str := ["p", "n", "text", "row"]
theorem sc_read_row : FnScope N_read_row ["p", "n", "text"] (defScope s_read_row) := ⟨rfl, rfl, rfl, by decide +kernel, rfl, by decide +kernel, by decide +kernel⟩
abbrev s__law_deck : Stmt := topS 16
abbrev N__law_deck : List Str := ["_law_script", "_law_cell"]
theorem sc__law_deck : FnScope N__law_deck ["_law_script"] (defScope s__law_deck) := ⟨rfl, rfl, rfl, by decide +kernel, rfl, by decide +kernel, by decide +kernel⟩
abbrev s__law_draw : Stmt := topS 17
abbrev N__law_draw : List Str := ["_law_deck_here", "_law_many", "_law_cell", "_law_place"]
theorem sc__law_draw : FnScope N__law_draw ["_law_deck_here", "_law_many"] (defScope s__law_draw) := ⟨rfl, rfl, rfl, by decide +kernel, rfl, by decide +kernel, by decide +kernel⟩
abbrev s__law_row : Stmt := topS 18
abbrev N__law_row : List Str := ["_law_deck_here", "_law_p", "_law_n", "_law_way", "_law_spot", "_law_k"]
theorem sc__law_row : FnScope N__law_row ["_law_deck_here", "_law_p", "_law_n"] (defScope s__law_row) := ⟨rfl, rfl, rfl, by decide +kernel, rfl, by decide +kernel, by decide +kernel⟩
abbrev s__law_whole : Stmt := topS 19
abbrev N__law_whole : List Str := ["_law_thing"]
theorem sc__law_whole : FnScope N__law_whole ["_law_thing"] (defScope s__law_whole) := ⟨rfl, rfl, rfl, by decide +kernel, rfl, by decide +kernel, by decide +kernel⟩
abbrev s__law_same : Stmt := topS 20
abbrev N__law_same : List Str := ["_law_found", "_law_due_here", "_law_one", "_law_other"]
theorem sc__law_same : FnScope N__law_same ["_law_found", "_law_due_here"] (defScope s__law_same) := ⟨rfl, rfl, rfl, by decide +kernel, rfl, by decide +kernel, by decide +kernel⟩
abbrev s__law_odd : Stmt := topS 21
abbrev N__law_odd : List Str := ["_law_deck_here", "_law_some"]
theorem sc__law_odd : FnScope N__law_odd ["_law_deck_here"] (defScope s__law_odd) := ⟨rfl, rfl, rfl, by decide +kernel, rfl, by decide +kernel, by decide +kernel⟩
abbrev s__law_is_row : Stmt := topS 22
abbrev N__law_is_row : List Str := ["_law_p", "_law_n", "_law_thing", "_law_rest"]
theorem sc__law_is_row : FnScope N__law_is_row ["_law_p", "_law_n", "_law_thing"] (defScope s__law_is_row) := ⟨rfl, rfl, rfl, by decide +kernel, rfl, by decide +kernel, by decide +kernel⟩
abbrev s__law_row_text : Stmt := topS 23
abbrev N__law_row_text : List Str := ["_law_row_here", "_law_rest"]
theorem sc__law_row_text : FnScope N__law_row_text ["_law_row_here"] (defScope s__law_row_text) := ⟨rfl, rfl, rfl, by decide +kernel, rfl, by decide +kernel, by decide +kernel⟩
abbrev s__law_read : Stmt := topS 24
abbrev N__law_read : List Str := ["_law_p", "_law_n", "_law_text", "e"]
theorem sc__law_read : FnScope N__law_read ["_law_p", "_law_n", "_law_text"] (defScope s__law_read) := ⟨rfl, rfl, rfl, by decide +kernel, rfl, by decide +kernel, by decide +kernel⟩
abbrev s__law_due : Stmt := topS 25
abbrev N__law_due : List Str := ["_law_p", "_law_n", "_law_text", "_law_found", "_law_word", "_law_rest"]
theorem sc__law_due : FnScope N__law_due ["_law_p", "_law_n", "_law_text"] (defScope s__law_due) := ⟨rfl, rfl, rfl, by decide +kernel, rfl, by decide +kernel, by decide +kernel⟩
abbrev s__law_bent_text : Stmt := topS 26
abbrev N__law_bent_text : List Str := ["_law_deck_here", "_law_text", "_law_at", "_law_sign", "_law_ahead", "_law_others"]
theorem sc__law_bent_text : FnScope N__law_bent_text ["_law_deck_here", "_law_text"] (defScope s__law_bent_text) := ⟨rfl, rfl, rfl, by decide +kernel, rfl, by decide +kernel, by decide +kernel⟩
abbrev s_law : Stmt := topS 27
abbrev N_law : List Str := ["_law_script", "_law_deck_here", "_law_p", "_law_n", "_law_row_here", "_law_k", "_law_some", "_law_one", "_law_text", "_law_things", "_law_thing", "_law_kept"]
theorem sc_law : FnScope N_law ["_law_script"] (defScope s_law) := ⟨rfl, rfl, rfl, by decide +kernel, rfl, by decide +kernel, by decide +kernel⟩
structure Top (K : PySem.W.Frag) (mg : Str → Option Value) : Prop where
  b_abs : mg "abs" = none
  b_all : mg "all" = none
  b_bool : mg "bool" = none
  b_int : mg "int" = none
  b_isinstance : mg "isinstance" = none
  b_len : mg "len" = none
  b_range : mg "range" = none
  b_repr : mg "repr" = none
  b_str : mg "str" = none
  b_tuple : mg "tuple" = none
  b_zip : mg "zip" = none
  b_ValueError : mg "ValueError" = none
  e_CallError : ErrC K mg "CallError"
  n_CallError : PySem.W.excIn K (adr mg "CallError") [.type "ValueError", .type "Exception", .type "BaseException", .type "object"] "ValueError.__new__" = true
  e_NoRow : ErrC K mg "NoRow"
  n_NoRow : PySem.W.excIn K (adr mg "NoRow") [.type "ValueError", .type "Exception", .type "BaseException", .type "object"] "ValueError.__new__" = true
  e_NoText : ErrC K mg "NoText"
  n_NoText : PySem.W.excIn K (adr mg "NoText") [.type "ValueError", .type "Exception", .type "BaseException", .type "object"] "ValueError.__new__" = true
  s_CallError_CallError : PySem.W.subIn K (.ref (adr mg "CallError")) (.ref (adr mg "CallError")) = some true
  s_NoRow_NoRow : PySem.W.subIn K (.ref (adr mg "NoRow")) (.ref (adr mg "NoRow")) = some true
  s_NoText_CallError : PySem.W.subIn K (.ref (adr mg "NoText")) (.ref (adr mg "CallError")) = some true
  s_NoText_NoRow : PySem.W.subIn K (.ref (adr mg "NoText")) (.ref (adr mg "NoRow")) = some false
  s_NoText_NoText : PySem.W.subIn K (.ref (adr mg "NoText")) (.ref (adr mg "NoText")) = some true
  s_NoText_ValueError : PySem.W.subIn K (.ref (adr mg "NoText")) (.type "ValueError") = some true
  c_FIGURES : ∃ t, mg "FIGURES" = some (.str "0123456789" t)
  d_is_number : Df K mg "is_number" s_is_number ["thing"]
  d_is_rest : Df K mg "is_rest" s_is_rest ["p", "thing"]
  d_is_row : Df K mg "is_row" s_is_row ["p", "n", "thing"]
  d_is_numeral : Df K mg "is_numeral" s_is_numeral ["text"]
  d_read_numbers : Df K mg "read_numbers" s_read_numbers ["words"]
  d_row_text : Df K mg "row_text" s_row_text ["row"]
  d_read_row : Df K mg "read_row" s_read_row ["p", "n", "text"]
  d__law_deck : Df K mg "_law_deck" s__law_deck ["_law_script"]
  d__law_draw : Df K mg "_law_draw" s__law_draw ["_law_deck_here", "_law_many"]
  d__law_row : Df K mg "_law_row" s__law_row ["_law_deck_here", "_law_p", "_law_n"]
  d__law_whole : Df K mg "_law_whole" s__law_whole ["_law_thing"]
  d__law_same : Df K mg "_law_same" s__law_same ["_law_found", "_law_due_here"]
  d__law_odd : Df K mg "_law_odd" s__law_odd ["_law_deck_here"]
  d__law_is_row : Df K mg "_law_is_row" s__law_is_row ["_law_p", "_law_n", "_law_thing"]
  d__law_row_text : Df K mg "_law_row_text" s__law_row_text ["_law_row_here"]
  d__law_read : Df K mg "_law_read" s__law_read ["_law_p", "_law_n", "_law_text"]
  d__law_due : Df K mg "_law_due" s__law_due ["_law_p", "_law_n", "_law_text"]
  d__law_bent_text : Df K mg "_law_bent_text" s__law_bent_text ["_law_deck_here", "_law_text"]
section
variable {P : Program} {w : World} {K : PySem.W.Frag} {mg : Str → Option Value} {base : Heap}
def sp_whole (K : PySem.W.Frag) : Sp := fun vs H Q _ => ∃ (v : V) (k : Kd), vs = [v] ∧ KdOf K H v k ∧ Q (.bl (decide (k = .int))) H
theorem ok__law_whole (T : Top K mg) : Ok P w K mg base 1 "_law_whole" ["_law_thing"] (sp_whole K) := by
  refine T.d__law_whole.ok sc__law_whole (fun vs H Q E h => ?_) (fun f cdv A outer s H vs Q E hr h => ?_)
  · obtain ⟨v, k, rfl, _⟩ := h
    rfl
  · obtain ⟨v, k, rfl, ty, q⟩ := h
    refine ⟨_, ((pss_one (ps_ret (pe_and (pe_callB call_isi (by rfl) T.b_isinstance (by decide +kernel) (pa_cons (pv 0) (pa_cons (pe_bltn (v := .ty "int") (u := .type "int") (by rfl) T.b_int (by decide +kernel) rfl) pa_nil))) (pe_one (pe_not (pe_callB call_isi (by rfl) T.b_isinstance (by decide +kernel) (pa_cons (pv 0) (pa_cons (pe_bltn (v := .ty "bool") (u := .type "bool") (by rfl) T.b_bool (by decide +kernel) rfl) pa_nil))))))))), ?_⟩
    refine ⟨v, rfl, v, .ty "int", _, _, _, rfl, .ty "int", ty, kit_int k, _, rfl, ?_⟩
    cases k <;> first | exact q | exact ⟨v, rfl, v, .ty "bool", _, _, _, rfl, .ty "bool", ty, kit_bool _, _, rfl, q⟩
theorem ok_is_number (T : Top K mg) : Ok P w K mg base 1 "is_number" ["thing"] (sp_whole K) := by
  refine T.d_is_number.ok sc_is_number (fun vs H Q E h => ?_) (fun f cdv A outer s H vs Q E hr h => ?_)
  · obtain ⟨v, k, rfl, _⟩ := h
    rfl
  · obtain ⟨v, k, rfl, ty, q⟩ := h
    refine ⟨_, ((pss_one (ps_ret (pe_and (pe_callB call_isi (by rfl) T.b_isinstance (by decide +kernel) (pa_cons (pv 0) (pa_cons (pe_bltn (v := .ty "int") (u := .type "int") (by rfl) T.b_int (by decide +kernel) rfl) pa_nil))) (pe_one (pe_not (pe_callB call_isi (by rfl) T.b_isinstance (by decide +kernel) (pa_cons (pv 0) (pa_cons (pe_bltn (v := .ty "bool") (u := .type "bool") (by rfl) T.b_bool (by decide +kernel) rfl) pa_nil))))))))), ?_⟩
    refine ⟨v, rfl, v, .ty "int", _, _, _, rfl, .ty "int", ty, kit_int k, _, rfl, ?_⟩
    cases k <;> first | exact q | exact ⟨v, rfl, v, .ty "bool", _, _, _, rfl, .ty "bool", ty, kit_bool _, _, rfl, q⟩
def sp_is_rest (K : PySem.W.Frag) : Sp := fun vs H Q _ => ∃ (p : Int) (v : V) (e : PyData), vs = [.int p, v] ∧ Rep K H NB v e ∧ Q (.bl (restD p e)) H
theorem ok_is_rest (T : Top K mg) : Ok P w K mg base 2 "is_rest" ["p", "thing"] (sp_is_rest K) := by
  have O_is_number := ok_is_number (P := P) (w := w) (base := base) T
  refine T.d_is_rest.ok sc_is_rest (fun vs H Q E h => ?_) (fun f cdv A outer s H vs Q E hr h => ?_)
  · obtain ⟨p, v, e, rfl, _⟩ := h
    rfl
  · obtain ⟨p, v, e, rfl, hv, q⟩ := h
    refine ⟨_, ((pss_one (ps_ret (pe_and (pe_callO O_is_number (hr.mono (by omega)) (by rfl) (pa_cons (pv 1) pa_nil)) (pe_one (pe_chain op_le op_lt pe_int (pv 1) (pv 0))))))), ?_⟩
    refine ⟨v, rfl, v, kdOf e, rfl, hv.kd, _, rfl, ?_⟩
    cases hv with
    | int i =>
      refine iteT ⟨.int i, rfl, 0, i, rfl, rfl, _, rfl, ?_⟩
      by_cases h0 : 0 ≤ i
      · rw [decide_eq_true h0]
        refine iteT ⟨.int p, rfl, i, p, rfl, rfl, ?_⟩
        have e : restD p (.int i) = decide (i < p) := by
          show (decide (0 ≤ i) && decide (i < p)) = decide (i < p)
          rw [decide_eq_true h0, Bool.true_and]
        rw [e] at q
        exact q
      · rw [decide_eq_false h0]
        refine iteF ?_
        have e : restD p (.int i) = false := by
          show (decide (0 ≤ i) && decide (i < p)) = false
          rw [decide_eq_false h0, Bool.false_and]
        rw [e] at q
        exact q
    | _ => exact iteF q
def sp_is_row (K : PySem.W.Frag) : Sp := fun vs H Q _ => ∃ (p n : Int) (v : V) (e : PyData), vs = [.int p, .int n, v] ∧ Rep K H NB v e ∧ lenOk e ∧ ∀ H', Same H H' → Q (.bl (isRowD p n e)) H'
theorem ok_is_row (T : Top K mg) : Ok P w K mg base 3 "is_row" ["p", "n", "thing"] (sp_is_row K) := by
  have O_is_rest := ok_is_rest (P := P) (w := w) (base := base) T
  refine T.d_is_row.ok sc_is_row (fun vs H Q E h => ?_) (fun f cdv A outer s H vs Q E hr h => ?_)
  · obtain ⟨p, n, v, e, rfl, _⟩ := h
    rfl
  · obtain ⟨p, n, v, e, rfl, hv, hl, q⟩ := h
    refine ⟨_, ((pss_one (ps_ret (pe_and (pe_callB call_isi (by rfl) T.b_isinstance (by decide +kernel) (pa_cons (pv 2) (pa_cons (pe_bltn (v := .ty "tuple") (u := .type "tuple") (by rfl) T.b_tuple (by decide +kernel) rfl) pa_nil))) (pe_and (pe_cmpR op_eq (pe_callB call_len_seq (by rfl) T.b_len (by decide +kernel) (pa_cons (pv 2) pa_nil)) (pv 1) (nomark _)) (pe_one (pe_callB (cr_all (by rfl)) (by rfl) T.b_all (by decide +kernel) (pa_cons (pe_lc (own := [("part", 3)]) (g := gName 3) (by rfl) sc_is_row.nd (pi_tup (pv 2)) (blkOk_by (own := [("part", 3)]) (N := N_is_row) (sc := defScope s_is_row) (by decide +kernel)) (fun _ _ _ _ _ => (pg_name (i := 3) sc_is_row.nd rfl (.inl rfl))) (fun _ _ _ _ _ => pts_nil) (fun _ _ _ _ _ => (pe_callO O_is_rest (hr.mono (by omega)) (by rfl) (pa_cons (pv 0) (pa_cons (pv 3) pa_nil))))) pa_nil)))))))), ?_⟩
    refine ⟨v, rfl, v, .ty "tuple", _, _, _, rfl, .ty "tuple", hv.kd, kit_tuple _, _, rfl, ?_⟩
    cases hv with
    | @tup a xs ds hA hx =>
      have lx := repAll_len hx
      have hl : ds.length ≤ 1000 := hl
      refine iteT ⟨.ref a, rfl, a, xs, rfl, .inr hA, .int n, rfl, rfl, _, rfl, ?_⟩
      by_cases hn : (ds.length : Int) = n
      · rw [decide_eq_true (show V.int ((xs.length : Nat) : Int) = V.int n by rw [lx, hn])]
        refine iteT ⟨.ref a, rfl, a, rfl, ⟨_, hA⟩, fun D nD => ?_⟩
        refine lc_it (walk_tup (K := K) (a := a) (xs := xs)) (fun k H' => Same H H' ∧ H' D = some (.lst (((ds.map (restD p)).take k).map V.bl))) ⟨same_mut (Same.refl H) nD, upd_same⟩ (fun k H' _ hP => Same.tup hP.1 hA) (fun k x H1 H2 hk hP hY => ?_) (fun H' hP => ?_)
        · obtain ⟨rfl, e1⟩ := hY
          obtain ⟨sm, eD⟩ := hP
          obtain ⟨e, g, _, rx⟩ := repAll_get hx e1
          refine ⟨rfl, .int p, rfl, x, rfl, p, x, e, rfl, rep_stays (Stays.of sm) _ _ rx, _, eD, ?_, same_mut sm nD, ?_⟩
          · rw [List.length_map, List.length_take, List.length_map]
            exact small1000 (by omega)
          · rw [upd_same, List.take_add_one, List.getElem?_map, g, List.map_append]
            rfl
        · obtain ⟨sm, eD⟩ := hP
          rw [List.take_of_length_le (by rw [List.length_map]; omega)] at eD
          refine ⟨D, ds.map (restD p), rfl, .inl (.inl eD), ?_⟩
          have e : isRowD p n (.tuple ds) = (ds.map (restD p)).all id := by
            show (decide ((ds.length : Int) = n) && ds.all (restD p)) = _
            rw [decide_eq_true hn, Bool.true_and, List.all_map]
            rfl
          have := q H' sm
          rw [e] at this
          exact this
      · rw [decide_eq_false (show ¬ V.int ((xs.length : Nat) : Int) = V.int n from fun z => hn (by rw [← lx]; exact V.int.inj z))]
        refine iteF ?_
        have e : isRowD p n (.tuple ds) = false := by
          show (decide ((ds.length : Int) = n) && ds.all (restD p)) = false
          rw [decide_eq_false hn, Bool.false_and]
        have := q H (Same.refl H)
        rw [e] at this
        exact this
    | _ => exact iteF (q H (Same.refl H))
def sp_deck (K : PySem.W.Frag) : Sp := fun vs H Q _ => ∃ (a : Addr) (ns : List Int), vs = [.ref a] ∧ SqL K H a (ns.map V.int) ∧ ns.length ≤ 63 ∧ ∀ H' d c, Same H H' → Deck H' d c 0 → H d = none → H c = none → Q (.ref d) H'
theorem ok__law_deck (T : Top K mg) : Ok P w K mg base 1 "_law_deck" ["_law_script"] (sp_deck K) := by
  refine T.d__law_deck.ok sc__law_deck (fun vs H Q E h => ?_) (fun f cdv A outer s H vs Q E hr h => ?_)
  · obtain ⟨a, ns, rfl, _⟩ := h
    rfl
  · obtain ⟨a, ns, rfl, hS, hl, q⟩ := h
    refine ⟨_, ((pss_one (ps_ret (pe_lst (pa_cons (pe_lc (own := [("_law_cell", 1)]) (g := gName 1) (by rfl) sc__law_deck.nd (pi_list (pe_slice sl_list (pv 0) po_none (po_some pe_int))) (blkOk_by (own := [("_law_cell", 1)]) (N := N__law_deck) (sc := defScope s__law_deck) (by decide +kernel)) (fun _ _ _ _ _ => (pg_name (i := 1) sc__law_deck.nd rfl (.inl rfl))) (fun _ _ _ _ _ => pts_nil) (fun _ _ _ _ _ => (pe_callB call_abs (by rfl) T.b_abs (by decide +kernel) (pa_cons (pv 1) pa_nil)))) (pa_cons pe_int pa_nil)))))), ?_⟩
    refine ⟨.ref a, rfl, 63, rfl, a, ns.map V.int, rfl, hS, fun l nl => ?_⟩
    have ec : cutV (ns.map V.int) none (some 63) = ns.map V.int := by
      unfold cutV
      rw [HT.sIx_none, show HT.sIx (ns.map V.int).length (ns.map V.int).length (some 63) = min 63 (ns.map V.int).length from HT.sIx_nat _ _ 63]
      rw [List.drop_zero]
      exact List.take_of_length_le (by rw [List.length_map]; omega)
    rw [ec]
    have s1 : Same H (upd H l (.lst (ns.map V.int))) := same_upd nl
    refine ⟨l, rfl, ⟨_, .inl (.inl upd_same)⟩, fun D nD => ?_⟩
    have nl' : H D = none := s1.free nD
    have nDl : l ≠ D := ne_of_none upd_same nD
    refine lc_list (xs := ns.map V.int) (fun i H' => Same H H' ∧ H' l = some (.lst (ns.map V.int)) ∧ H' D = some (.lst ((ns.take i).map fun x => V.int (if x < 0 then -x else x)))) ⟨same_mut s1 nl', ?_, ?_⟩ (fun i H' _ hP => .inl (.inl hP.2.1)) (fun i x H' hx hP => ?_) (fun H' hP => ?_)
    · rw [upd_ne nDl, upd_same]
    · rw [upd_same]; rfl
    · obtain ⟨sm, e1, e2⟩ := hP
      rw [List.getElem?_map] at hx
      cases hn : ns[i]? with
      | none => rw [hn] at hx; cases hx
      | some z =>
        rw [hn] at hx
        have ez : x = V.int z := (Option.some.inj hx).symm
        subst ez
        refine ⟨rfl, .int z, rfl, z, rfl, _, e2, ?_, same_mut sm nl', ?_, ?_⟩
        · rw [List.length_map, List.length_take]
          exact Nat.lt_of_le_of_lt (Nat.min_le_right _ _) (small1000 (by omega))
        · rw [upd_ne nDl]; exact e1
        · rw [upd_same, List.take_add_one, hn, List.map_append]
          rfl
    · obtain ⟨sm, e1, e2⟩ := hP
      rw [List.length_map, List.take_length] at e2
      refine ⟨(by show 2 ≤ sizeLine; decide), fun p np => ?_⟩
      have sp : Same H' (upd H' p (.lst [.ref D, .int 0])) := same_upd np
      refine q _ p D (sm.trans sp) ⟨upd_same, ⟨ns.map fun x => if x < 0 then -x else x, ?_, fun x hx => ?_, by rw [List.length_map]; exact hl⟩, fun z => ?_, by decide⟩ (sm.free np) nl'
      · rw [sp _ _ e2, List.map_map]
        rfl
      · obtain ⟨y, _, rfl⟩ := List.mem_map.mp hx
        by_cases hy : y < 0
        · rw [if_pos hy]; omega
        · rw [if_neg hy]; omega
      · subst z
        rw [e2] at np
        cases np
theorem wide_m {m : Int} (h0 : 0 < m) (h1 : m < 100000000000000000000) : m.natAbs.log2 < 9000 := by
  have e : (2 : Nat) ^ 67 = 147573952589676412928 := by decide
  have := PySem.Flt.log2_lt_of (k := 67) (n := m.natAbs) (by decide) (by rw [e]; omega)
  omega
def sp_draw : Sp := fun vs H Q _ => ∃ (d c : Addr) (t m : Int), vs = [.ref d, .int m] ∧ Deck H d c t ∧ t < 1000000 ∧ 0 < m ∧ m < 100000000000000000000 ∧ ∀ H' r, Kept d c H H' → Deck H' d c (t + 1) → 0 ≤ r → r < m → Q (.int r) H'
theorem ok__law_draw (T : Top K mg) : Ok P w K mg base 1 "_law_draw" ["_law_deck_here", "_law_many"] sp_draw := by
  refine T.d__law_draw.ok sc__law_draw (fun vs H Q E h => ?_) (fun f cdv A outer s H vs Q E hr h => ?_)
  · obtain ⟨d, c, t, m, rfl, _⟩ := h
    rfl
  · obtain ⟨d, c, t, m, rfl, ⟨hd, ⟨cells, hc, hp, hl⟩, hne, ht0⟩, ht, hm0, hm1, q⟩ := h
    refine ⟨_, ((pss_cons (ps_asg (pe_op op_add (pe_ix ix_list (pv 0) pe_int (fun _ _ => rfl)) pe_int) (pg_sub (pv 0) pe_int set_list))
      (pss_cons (ps_set (i := 2) sc__law_draw.nd rfl (.inl rfl) pe_int)
      (pss_cons (ps_set (i := 3) sc__law_draw.nd rfl (.inl rfl) (pe_un un_neg pe_int))
      (pss_cons (ps_if (pt_cmpR op_gt (pe_callB call_len_seq (by rfl) T.b_len (by decide +kernel) (pa_cons (pe_ix ix_list (pv 0) pe_int (fun _ _ => rfl)) pa_nil)) pe_int (nomark _))
        (pss_cons (ps_set (i := 3) sc__law_draw.nd rfl (.inl rfl) (pe_op op_mod (pe_ix ix_list (pv 0) pe_int (fun _ _ => rfl)) (pe_callB call_len_seq (by rfl) T.b_len (by decide +kernel) (pa_cons (pe_ix ix_list (pv 0) pe_int (fun _ _ => rfl)) pa_nil))))
        (pss_one (ps_set (i := 2) sc__law_draw.nd rfl (.inl rfl) (pe_ix ix_list (pe_ix ix_list (pv 0) pe_int (fun _ _ => rfl)) (pv 3) (fun _ _ => rfl)))))
        pss_nil)
      (pss_cons (ps_if (pt_cmpR op_ge (pv 2) (pe_op op_pow pe_int pe_int) (nomark _))
        (pss_cons (ps_asg (pe_op op_fdivW (pv 2) (pv 1)) (pg_sub (pe_ix ix_list (pv 0) pe_int (fun _ _ => rfl)) (pv 3) set_list))
        (pss_one (ps_ret (pe_op op_mod (pv 2) (pv 1)))))
        pss_nil)
      (pss_one (ps_ret (pe_op op_mod (pe_op op_mod (pe_op op_pow (pe_op op_add (pe_op op_add (pe_op op_mod (pv 2) pe_int) (pe_op op_mul pe_int (pe_ix ix_list (pv 0) pe_int (fun _ _ => rfl)))) pe_int) pe_int) pe_int) (pv 1)))))))))), ?_⟩
    refine ⟨.ref d, rfl, d, _, 1, .int t, rfl, rfl, .inl (.inl hd), rfl, t, 1, rfl, rfl, .ref d, rfl, d, _, 1, 1, rfl, rfl, hd, rfl, ?_⟩
    have hd1 : (upd H d (.lst ([V.ref c, .int t].set 1 (.int (t + 1))))) d = some (.lst [.ref c, .int (t + 1)]) := upd_same
    have hc1 : (upd H d (.lst ([V.ref c, .int t].set 1 (.int (t + 1))))) c = some (.lst (cells.map V.int)) := by
      rw [upd_ne hne]; exact hc
    have k1 : Kept d c H (upd H d (.lst ([V.ref c, .int t].set 1 (.int (t + 1))))) := fun b o h n _ => by
      rw [upd_ne n]; exact h
    generalize upd H d (.lst ([V.ref c, .int t].set 1 (.int (t + 1)))) = H1 at hd1 hc1 k1 ⊢
    have D1 : Deck H1 d c (t + 1) := ⟨hd1, ⟨cells, hc1, hp, hl⟩, hne, by omega⟩
    refine ⟨1, rfl, .ref d, rfl, d, _, 0, .ref c, rfl, rfl, .inl (.inl hd1), rfl, c, _, rfl, .inl (.inl (.inl hc1)), _, 0, rfl, rfl, _, rfl, ite2 (fun e => ?_) (fun e => ?_)⟩
    · have e0 : (0 : Int) < ((cells.map V.int).length : Int) := of_decide_eq_true e
      rw [List.length_map] at e0
      have z0 : 0 ≤ (t + 1) % (cells.length : Int) := Int.emod_nonneg _ (by omega)
      have z1 : (t + 1) % (cells.length : Int) < (cells.length : Int) := Int.emod_lt_of_pos _ e0
      obtain ⟨x, hx, hx2, hx3⟩ := at_int z0 z1
      have x0 := hp x hx
      refine ⟨.ref d, rfl, d, _, 1, .int (t + 1), rfl, rfl, .inl (.inl hd1), rfl, .ref d, rfl, d, _, 0, .ref c, rfl, rfl, .inl (.inl hd1), rfl, c, _, rfl, .inl (.inl (.inl hc1)), t + 1, (cells.length : Int), rfl, by rw [List.length_map], e0, ?_⟩
      refine ⟨.ref d, rfl, d, _, 0, .ref c, rfl, rfl, .inl (.inl hd1), rfl, .int ((t + 1) % (cells.length : Int)), rfl, c, _, _, .int x, rfl, rfl, .inl (.inl hc1), hx3, ?_⟩
      refine ⟨.int x, rfl, 10, 18, rfl, rfl, ⟨by decide, by decide, by decide⟩, _, _, rfl, rfl, _, rfl, ite2 (fun e => ?_) (fun e => ?_)⟩
      · refine ⟨.int x, rfl, .int m, rfl, x, m, rfl, rfl, ⟨hm0, wide_m hm0 hm1⟩, .ref d, rfl, d, _, 0, .ref c, rfl, rfl, .inl (.inl hd1), rfl, .int ((t + 1) % (cells.length : Int)), rfl, c, _, _, _, rfl, rfl, hc1, ix_nat z0 (by rw [List.length_map]; exact z1), ?_⟩
        refine ⟨.int x, rfl, .int m, rfl, x, m, rfl, rfl, hm0, q _ _ (k1.trans fun b o h _ n => ?_) ⟨?_, ⟨cells.set ((t + 1) % (cells.length : Int)).toNat (x / m), ?_, fun y hy => ?_, ?_⟩, hne, by omega⟩ (Int.emod_nonneg _ (by omega)) (Int.emod_lt_of_pos _ hm0)⟩
        · rw [upd_ne n]; exact h
        · rw [upd_ne (Ne.symm hne)]; exact hd1
        · rw [upd_same, List.map_set]
        · rcases List.mem_or_eq_of_mem_set hy with h | h
          · exact hp y h
          · rw [h]; exact Int.ediv_nonneg x0 (by omega)
        · rw [List.length_set]; exact hl
      · refine ⟨.int x, rfl, x, 2147483587, rfl, rfl, (show (0 : Int) < 2147483587 by decide), .ref d, rfl, d, _, 1, .int (t + 1), rfl, rfl, .inl (.inl hd1), rfl, 7919, t + 1, rfl, rfl, .inl ⟨by decide, by decide⟩, _, _, rfl, rfl, _, 1, rfl, rfl, _, 5, rfl, rfl, ⟨by decide, by decide, ?_⟩, _, 2147483647, rfl, rfl, (show (0 : Int) < 2147483647 by decide), .int m, rfl, _, m, rfl, rfl, hm0, q _ _ k1 D1 (Int.emod_nonneg _ (by omega)) (Int.emod_lt_of_pos _ hm0)⟩
        have := Int.emod_lt_of_pos x (show (0 : Int) < 2147483587 by decide)
        have := Int.emod_nonneg x (show (2147483587 : Int) ≠ 0 by decide)
        omega
    · refine ⟨.int 0, rfl, 10, 18, rfl, rfl, ⟨by decide, by decide, by decide⟩, _, _, rfl, rfl, _, rfl, ite2 (fun e => absurd (of_decide_eq_true e) (by decide)) (fun e => ?_)⟩
      refine ⟨.int 0, rfl, 0, 2147483587, rfl, rfl, (show (0 : Int) < 2147483587 by decide), .ref d, rfl, d, _, 1, .int (t + 1), rfl, rfl, .inl (.inl hd1), rfl, 7919, t + 1, rfl, rfl, .inl ⟨by decide, by decide⟩, _, _, rfl, rfl, _, 1, rfl, rfl, _, 5, rfl, rfl, ⟨by decide, by decide, ?_⟩, _, 2147483647, rfl, rfl, (show (0 : Int) < 2147483647 by decide), .int m, rfl, _, m, rfl, rfl, hm0, q _ _ k1 D1 (Int.emod_nonneg _ (by omega)) (Int.emod_lt_of_pos _ hm0)⟩
      omega
end
end OC
set_option Elab.async false
set_option linter.all false
set_option maxRecDepth 100000
set_option maxHeartbeats 4000000
namespace OC
open PySem PySem.Spec PyProof.Rows L2
section
variable {P : Program} {w : World} {K : PySem.W.Frag} {mg : Str → Option Value} {base : Heap}
def rInFig : V → V → Hp → VK → Prop := fun x y H Q => ∃ i j, x = .str i ∧ y = .str j ∧ Q (.bl (!(Builtin.Str.occurrences j i 0 j.length 1).isEmpty)) H
def sp_is_numeral : Sp := fun vs H Q _ => ∃ z : Str, vs = [.str z] ∧ z.length ≤ 1000000 ∧ ∀ H', Same H H' → Q (.bl (numB z)) H'
theorem ok_is_numeral (T : Top K mg) : Ok P w K mg base 1 "is_numeral" ["text"] sp_is_numeral := by
  refine T.d_is_numeral.ok sc_is_numeral (fun vs H Q E h => ?_) (fun f cdv A outer s H vs Q E hr h => ?_)
  · obtain ⟨z, rfl, _⟩ := h
    rfl
  · obtain ⟨z, rfl, lz, q⟩ := h
    refine ⟨_, ((pss_cons (ps_if (PW.pt (pw_or (pt_not (pt_chain op_le op_le pe_int (pe_callB call_len_str (by rfl) T.b_len (by decide +kernel) (pa_cons (pv 0) pa_nil)) pe_int)) (pw_or1 (pt_not (pt_val (pe_callB (cr_all (by rfl)) (by rfl) T.b_all (by decide +kernel) (pa_cons (pe_lc (own := [("sign", 1)]) (g := gName 1) (by rfl) sc_is_numeral.nd (pi_str (pv 0)) (blkOk_by (own := [("sign", 1)]) (N := N_is_numeral) (sc := defScope s_is_numeral) (by decide +kernel)) (fun _ _ _ _ _ => (pg_name (i := 1) sc_is_numeral.nd rfl (.inl rfl))) (fun _ _ _ _ _ => pts_nil) (fun _ _ _ _ _ => (pe_cmpR (show OpR _ (compareOp .In) rInFig from op_in_str) (pv 1) (pe_cstr T.c_FIGURES (by rfl)) (by rfl)))) pa_nil)))))))
        (pss_one (ps_ret pe_bl))
        pss_nil)
      (pss_one (ps_ret (pe_or (pe_cmpR op_eq (pv 0) pe_str (nomark _)) (pe_one (pe_cmpR op_ne (pe_ix ix_str (pv 0) pe_int (fun _ _ => rfl)) pe_str (nomark _)))))))), ?_⟩
    refine ⟨.str z, rfl, z, rfl, Nat.le_trans lz (by decide), ?_⟩
    have lc : z.cps.toList.length = z.length := Array.length_toList
    refine ⟨1, _, rfl, rfl, _, rfl, ?_⟩
    by_cases h1 : 1 ≤ z.length
    · rw [decide_eq_true (show (1 : Int) ≤ (z.length : Int) by omega)]
      refine iteT ⟨_, 6, rfl, rfl, _, rfl, ?_⟩
      by_cases h6 : z.length ≤ 6
      · rw [decide_eq_true (show (z.length : Int) ≤ 6 by omega)]
        refine iteF ⟨.str z, rfl, z, rfl, fun D nD => lc_it (walk_str (z := z)) (fun i H' => Same H H' ∧ H' D = some (.lst (((z.cps.toList.take i).map okf).map V.bl))) ⟨same_upd nD, upd_same⟩ (fun i H' _ hP => trivial) (fun i x Ha Hb hi hP hY => ?_) (fun H3 hP => ?_)⟩
        · obtain ⟨rfl, c, hc, rfl⟩ := hY
          obtain ⟨s1, eD⟩ := hP
          refine ⟨rfl, .str ⟨#[c]⟩, rfl, ⟨#[c]⟩, FG, rfl, rfl, _, eD, ?_, same_mut s1 nD, ?_⟩
          · rw [List.length_map, List.length_map, List.length_take]
            exact small1000 (by omega)
          · have g : z.cps.toList[i]? = some c := by rw [Array.getElem?_toList]; exact hc
            rw [upd_same, List.take_add_one, g, List.map_append, List.map_append]
            rfl
        · obtain ⟨s3, eD⟩ := hP
          rw [List.take_of_length_le (by simp)] at eD
          refine ⟨D, _, rfl, .inl (.inl eD), _, rfl, ?_⟩
          rw [List.all_map]
          have q3 := q H3 s3
          unfold numB at q3
          rw [decide_eq_true h1, decide_eq_true h6, Bool.true_and, Bool.true_and] at q3
          have ea : (z.cps.toList.all (id ∘ okf)) = z.cps.toList.all okf := rfl
          rw [ea]
          cases ha : z.cps.toList.all okf with
          | false =>
            rw [ha, Bool.false_and] at q3
            exact iteT q3
          | true =>
            rw [ha, Bool.true_and] at q3
            refine iteF ⟨.str z, rfl, rfl, _, rfl, ?_⟩
            by_cases h0 : z = "0"
            · rw [decide_eq_true (congrArg V.str h0)]
              rw [decide_eq_true h0, Bool.true_or] at q3
              exact iteT q3
            · rw [decide_eq_false fun e => h0 (by injection e)]
              rw [decide_eq_false h0, Bool.false_or] at q3
              cases hd : z.cps.toList with
              | nil => rw [hd] at lc; simp at lc; omega
              | cons c cs =>
                rw [hd] at q3
                have at0 : atI z.cps.toList 0 = some c := by rw [hd]; simp [atI, ixN]
                refine iteF ⟨.str z, rfl, z, 0, c, rfl, rfl, Nat.le_trans lz (by decide), at0, rfl, ?_⟩
                have e : (!decide (V.str ⟨#[c]⟩ = V.str (Str.ofString "0"))) = !decide (c = 48) := by
                  congr 1
                  refine decide_eq_decide.mpr ⟨fun e => ?_, fun e => by rw [e]; rfl⟩
                  injection e with e
                  have := congrArg (fun y : Str => y.cps.toList) e
                  have e2 : (Str.ofString "0").cps.toList = [48] := by decide +kernel
                  rw [e2] at this
                  simpa using this
                rw [e]
                exact q3
      · rw [decide_eq_false (show ¬ (z.length : Int) ≤ 6 by omega)]
        have q3 := q H (Same.refl H)
        unfold numB at q3
        rw [decide_eq_false h6, Bool.and_false, Bool.false_and, Bool.false_and] at q3
        exact iteT q3
    · rw [decide_eq_false (show ¬ (1 : Int) ≤ (z.length : Int) by omega)]
      refine iteF ⟨_, rfl, iteT ?_⟩
      have q3 := q H (Same.refl H)
      unfold numB at q3
      rw [decide_eq_false h1, Bool.false_and, Bool.false_and, Bool.false_and] at q3
      exact q3
/-- what a list of words is as numbers -/
def numsR (ws : List Str) : Option (List Int) := if ws.all numB = true then some (ws.map valN) else none
def sp_read_numbers (K : PySem.W.Frag) : Sp := fun vs H Q _ => ∃ (a : Addr) (ws : List Str), vs = [.ref a] ∧ SqL K H a (ws.map V.str) ∧ ws.length ≤ 1000 ∧ (∀ z ∈ ws, z.length ≤ 1000000) ∧ (∀ H', Same H H' → numsR ws = none → Q .non H') ∧ (∀ H' l ns, Same H H' → numsR ws = some ns → H' l = some (.tup (ns.map V.int)) → Q (.ref l) H')
theorem ok_read_numbers (T : Top K mg) : Ok P w K mg base 2 "read_numbers" ["words"] (sp_read_numbers K) := by
  have O_is_numeral := ok_is_numeral (P := P) (w := w) (base := base) T
  refine T.d_read_numbers.ok sc_read_numbers (fun vs H Q E h => ?_) (fun f cdv A outer s H vs Q E hr h => ?_)
  · obtain ⟨a, ws, rfl, _⟩ := h
    rfl
  · obtain ⟨a, ws, rfl, hA, lw, lz, q1, q2⟩ := h
    refine ⟨_, ((pss_cons (ps_if (pt_not (pt_val (pe_callB (cr_all (by rfl)) (by rfl) T.b_all (by decide +kernel) (pa_cons (pe_lc (own := [("word", 1)]) (g := gName 1) (by rfl) sc_read_numbers.nd (pi_list (pv 0)) (blkOk_by (own := [("word", 1)]) (N := N_read_numbers) (sc := defScope s_read_numbers) (by decide +kernel)) (fun _ _ _ _ _ => (pg_name (i := 1) sc_read_numbers.nd rfl (.inl rfl))) (fun _ _ _ _ _ => pts_nil) (fun _ _ _ _ _ => (pe_callO O_is_numeral (hr.mono (by omega)) (by rfl) (pa_cons (pv 1) pa_nil)))) pa_nil))))
        (pss_one (ps_ret pe_non))
        pss_nil)
      (pss_one (ps_ret (pe_callTy call_tuple_of (by rfl) T.b_tuple (by decide +kernel) (pa_cons (pe_lc (own := [("word", 1)]) (g := gName 1) (by rfl) sc_read_numbers.nd (pi_list (pv 0)) (blkOk_by (own := [("word", 1)]) (N := N_read_numbers) (sc := defScope s_read_numbers) (by decide +kernel)) (fun _ _ _ _ _ => (pg_name (i := 1) sc_read_numbers.nd rfl (.inl rfl))) (fun _ _ _ _ _ => pts_nil) (fun _ _ _ _ _ => (pe_callTy call_int_str (by rfl) T.b_int (by decide +kernel) (pa_cons (pv 1) pa_nil)))) pa_nil)))))), ?_⟩
    have lm : (ws.map V.str).length = ws.length := List.length_map _
    refine ⟨.ref a, rfl, a, rfl, ⟨_, hA⟩, fun D nD => lc_it (walk_list (K := K) (a := a) (xs := ws.map V.str)) (fun i H' => Same H H' ∧ H' D = some (.lst (((ws.take i).map numB).map V.bl))) ⟨same_upd nD, upd_same⟩ (fun i H' _ hP => sql_same hP.1 hA) (fun i x Ha Hb hi hP hY => ?_) (fun H1 hP => ?_)⟩
    · obtain ⟨rfl, hx⟩ := hY
      obtain ⟨s1, eD⟩ := hP
      rw [List.getElem?_map] at hx
      obtain ⟨y, gy, rfl⟩ := Option.map_eq_some_iff.mp hx
      refine ⟨rfl, .str y, rfl, y, rfl, lz y (List.mem_of_getElem? gy), fun H2 s2 => ?_⟩
      refine ⟨_, s2 _ _ eD, ?_, same_mut (s1.trans s2) nD, ?_⟩
      · rw [List.length_map, List.length_map, List.length_take]
        exact small1000 (by omega)
      · rw [upd_same, List.take_add_one, gy, List.map_append, List.map_append]
        rfl
    obtain ⟨s1, eD⟩ := hP
    rw [List.take_of_length_le (by omega)] at eD
    refine ⟨D, _, rfl, .inl (.inl eD), _, rfl, ?_⟩
    rw [List.all_map]
    have ea : ws.all (id ∘ numB) = ws.all numB := rfl
    rw [ea]
    cases ha : ws.all numB with
    | false => exact iteT (q1 H1 s1 (by unfold numsR; rw [ha]; rfl))
    | true =>
      have hall := List.all_eq_true.mp ha
      have hA1 := sql_same s1 hA
      refine iteF ⟨.ref a, rfl, a, rfl, ⟨_, hA1⟩, fun D2 nD2 => lc_it (walk_list (K := K) (a := a) (xs := ws.map V.str)) (fun i H' => Same H1 H' ∧ H' D2 = some (.lst (((ws.take i).map valN).map V.int))) ⟨same_upd nD2, upd_same⟩ (fun i H' _ hP => sql_same hP.1 hA1) (fun i x Ha Hb hi hP hY => ?_) (fun H2 hP => ?_)⟩
      · obtain ⟨rfl, hx⟩ := hY
        obtain ⟨s2, eD2⟩ := hP
        rw [List.getElem?_map] at hx
        obtain ⟨y, gy, rfl⟩ := Option.map_eq_some_iff.mp hx
        have ny := hall y (List.mem_of_getElem? gy)
        refine ⟨rfl, .str y, rfl, y, valN y, rfl, numB_int ny, by have := (numB_dig ny).2.1; omega, ?_⟩
        refine ⟨_, eD2, ?_, same_mut s2 nD2, ?_⟩
        · rw [List.length_map, List.length_map, List.length_take]
          exact small1000 (by omega)
        · rw [upd_same, List.take_add_one, gy, List.map_append, List.map_append]
          rfl
      obtain ⟨s2, eD2⟩ := hP
      rw [List.take_of_length_le (by omega)] at eD2
      refine ⟨D2, _, rfl, .inl ⟨.inl (.inl eD2), fun l nl => ?_⟩⟩
      generalize h3 : upd H2 l _ = H3
      obtain ⟨s3, e3⟩ := new_of h3 nl
      exact q2 H3 l (ws.map valN) (s1.trans (s2.trans s3)) (by unfold numsR; rw [ha]; rfl) e3
/-- the text of a row -/
def rowT (r : List Int) : Str := Txt.join " " (r.map txN)
def sp_row_text (K : PySem.W.Frag) : Sp := fun vs H Q _ => ∃ (a : Addr) (r : List Int), vs = [.ref a] ∧ SqT K H a (r.map V.int) ∧ r.length ≤ 1000 ∧ (∀ x ∈ r, 0 ≤ x ∧ x < 1000) ∧ ∀ H', Same H H' → Q (.str (rowT r)) H'
theorem txN_len {x : Int} (h0 : 0 ≤ x) (h1 : x < 1000) : (txN x).length ≤ 3 := by
  obtain ⟨n, rfl⟩ : ∃ n : Nat, x = (n : Int) := ⟨x.toNat, by omega⟩
  have e : (txN (n : Int)).cps.toList = TL.numL n := TL.tl_num n
  have l3 : (TL.numL n).length ≤ 3 := TL.numL_len (by decide) (by omega)
  have lz : (txN (n : Int)).cps.toList.length = (txN (n : Int)).length := Array.length_toList
  rw [e] at lz
  omega
theorem txs_sum : ∀ {r : List Int}, (∀ x ∈ r, 0 ≤ x ∧ x < 1000) → ((r.map txN).map (·.length)).sum ≤ 3 * r.length
  | [], _ => Nat.le_refl _
  | x :: r, h => by
    have := txs_sum (r := r) fun y hy => h y (List.mem_cons_of_mem _ hy)
    have hx := h x List.mem_cons_self
    have := txN_len hx.1 hx.2
    rw [List.map_cons, List.map_cons, List.sum_cons, List.length_cons]
    show (txN x).length + _ ≤ _
    omega
theorem ok_row_text (T : Top K mg) : Ok P w K mg base 1 "row_text" ["row"] (sp_row_text K) := by
  refine T.d_row_text.ok sc_row_text (fun vs H Q E h => ?_) (fun f cdv A outer s H vs Q E hr h => ?_)
  · obtain ⟨a, r, rfl, _⟩ := h
    rfl
  · obtain ⟨a, r, rfl, hA, lr, bd, q⟩ := h
    refine ⟨_, ((pss_one (ps_ret (pe_join pe_str (pe_lc (own := [("rest", 1)]) (g := gName 1) (by rfl) sc_row_text.nd (pi_tup (pv 0)) (blkOk_by (own := [("rest", 1)]) (N := N_row_text) (sc := defScope s_row_text) (by decide +kernel)) (fun _ _ _ _ _ => (pg_name (i := 1) sc_row_text.nd rfl (.inl rfl))) (fun _ _ _ _ _ => pts_nil) (fun _ _ _ _ _ => (pe_callTy call_str_int (by rfl) T.b_str (by decide +kernel) (pa_cons (pv 1) pa_nil)))))))), ?_⟩
    refine ⟨⟨_, rfl⟩, .ref a, rfl, a, rfl, ⟨_, hA⟩, fun D nD => lc_it (walk_tup (K := K) (a := a) (xs := r.map V.int)) (fun i H' => Same H H' ∧ H' D = some (.lst (((r.take i).map txN).map V.str))) ⟨same_upd nD, upd_same⟩ (fun i H' _ hP => Same.tup hP.1 hA) (fun i x Ha Hb hi hP hY => ?_) (fun H1 hP => ?_)⟩
    · obtain ⟨rfl, hx⟩ := hY
      obtain ⟨s1, eD⟩ := hP
      rw [List.getElem?_map] at hx
      obtain ⟨y, gy, rfl⟩ := Option.map_eq_some_iff.mp hx
      have by' := bd y (List.mem_of_getElem? gy)
      refine ⟨rfl, .int y, rfl, y, rfl, Nat.lt_of_le_of_lt (Nat.log2_le_self _) (by omega), ?_⟩
      refine ⟨_, eD, ?_, same_mut s1 nD, ?_⟩
      · rw [List.length_map, List.length_map, List.length_take]
        exact small1000 (by omega)
      · rw [upd_same, List.take_add_one, gy, List.map_append, List.map_append]
        rfl
    obtain ⟨s1, eD⟩ := hP
    rw [List.take_of_length_le (by rw [List.length_map]; omega)] at eD
    have sm := txs_sum bd
    refine ⟨Str.ofString " ", D, r.map txN, rfl, rfl, .inl (.inl (.inl eD)), ?_, ?_⟩
    · have : (Str.ofString " ").length = 1 := by decide +kernel
      rw [this, List.length_map]
      omega
    · exact q H1 s1
theorem ok__law_row_text (T : Top K mg) : Ok P w K mg base 1 "_law_row_text" ["_law_row_here"] (sp_row_text K) := by
  refine T.d__law_row_text.ok sc__law_row_text (fun vs H Q E h => ?_) (fun f cdv A outer s H vs Q E hr h => ?_)
  · obtain ⟨a, r, rfl, _⟩ := h
    rfl
  · obtain ⟨a, r, rfl, hA, lr, bd, q⟩ := h
    refine ⟨_, ((pss_one (ps_ret (pe_join pe_str (pe_lc (own := [("_law_rest", 1)]) (g := gName 1) (by rfl) sc__law_row_text.nd (pi_tup (pv 0)) (blkOk_by (own := [("_law_rest", 1)]) (N := N__law_row_text) (sc := defScope s__law_row_text) (by decide +kernel)) (fun _ _ _ _ _ => (pg_name (i := 1) sc__law_row_text.nd rfl (.inl rfl))) (fun _ _ _ _ _ => pts_nil) (fun _ _ _ _ _ => (pe_callTy call_str_int (by rfl) T.b_str (by decide +kernel) (pa_cons (pv 1) pa_nil)))))))), ?_⟩
    refine ⟨⟨_, rfl⟩, .ref a, rfl, a, rfl, ⟨_, hA⟩, fun D nD => lc_it (walk_tup (K := K) (a := a) (xs := r.map V.int)) (fun i H' => Same H H' ∧ H' D = some (.lst (((r.take i).map txN).map V.str))) ⟨same_upd nD, upd_same⟩ (fun i H' _ hP => Same.tup hP.1 hA) (fun i x Ha Hb hi hP hY => ?_) (fun H1 hP => ?_)⟩
    · obtain ⟨rfl, hx⟩ := hY
      obtain ⟨s1, eD⟩ := hP
      rw [List.getElem?_map] at hx
      obtain ⟨y, gy, rfl⟩ := Option.map_eq_some_iff.mp hx
      have by' := bd y (List.mem_of_getElem? gy)
      refine ⟨rfl, .int y, rfl, y, rfl, Nat.lt_of_le_of_lt (Nat.log2_le_self _) (by omega), ?_⟩
      refine ⟨_, eD, ?_, same_mut s1 nD, ?_⟩
      · rw [List.length_map, List.length_map, List.length_take]
        exact small1000 (by omega)
      · rw [upd_same, List.take_add_one, gy, List.map_append, List.map_append]
        rfl
    obtain ⟨s1, eD⟩ := hP
    rw [List.take_of_length_le (by rw [List.length_map]; omega)] at eD
    have sm := txs_sum bd
    refine ⟨Str.ofString " ", D, r.map txN, rfl, rfl, .inl (.inl (.inl eD)), ?_, ?_⟩
    · have : (Str.ofString " ").length = 1 := by decide +kernel
      rw [this, List.length_map]
      omega
    · exact q H1 s1
end
end OC
set_option Elab.async false
set_option linter.all false
set_option maxRecDepth 100000
set_option maxHeartbeats 4000000
namespace OC
open PySem PySem.Spec PyProof.Rows L2
section
variable {P : Program} {w : World} {K : PySem.W.Frag} {mg : Str → Option Value} {base : Heap}
/-- what a thing is, read as a row -/
def readR (p : Int) (n : Nat) : PyData → Option (List Int)
  | .str z => (numsR (Txt.split z " ")).bind fun ns => if isRowD p n (rowD ns) = true then some ns else none
  | _ => none
def sp_read_row (K : PySem.W.Frag) (mg : Str → Option Value) : Sp := fun vs H Q E => ∃ (v : V) (d : PyData) (bad : Addr → Prop) (p : Int) (n : Nat), vs = [.int p, .int (n : Int), v] ∧ Rep K H bad v d ∧ (∀ z, d = .str z → z.length ≤ 900 ∧ (Txt.split z " ").length ≤ 1000 ∧ ∀ y ∈ Txt.split z " ", y.length ≤ 1000000) ∧ 1 ≤ n ∧ n ≤ 100 ∧
  (∀ H' l ns, Same H H' → readR p n d = some ns → H' l = some (.tup (ns.map V.int)) → Q (.ref l) H') ∧ (∀ H', Same H H' → readR p n d = none → E (.ref (adr mg "NoText")) none H')
theorem okx_read_row (T : Top K mg) : OkX P w K mg base 4 "read_row" ["p", "n", "text"] (sp_read_row K mg) := by
  have O_read_numbers := ok_read_numbers (P := P) (w := w) (base := base) T
  have O_is_row := ok_is_row (P := P) (w := w) (base := base) T
  refine T.d_read_row.okX sc_read_row (fun vs H Q E h => ?_) (fun f cdv A outer s H vs Q E hr h => ?_)
  · obtain ⟨v, d, bad, p, n, rfl, _⟩ := h
    rfl
  · obtain ⟨v, d, bad, p, n, rfl, rv, lz, n1, hn, q1, q2⟩ := h
    refine ⟨_, ((pss_cons (ps_set (i := 3) sc_read_row.nd rfl (.inl rfl) (pe_ifExp (pt_val (pe_callB call_isi (by rfl) T.b_isinstance (by decide +kernel) (pa_cons (pv 2) (pa_cons (pe_bltn (v := .ty "str") (u := .type "str") (by rfl) T.b_str (by decide +kernel) rfl) pa_nil)))) (pe_callO O_read_numbers (hr.mono (by omega)) (by rfl) (pa_cons (pe_split (pv 2) pe_str) pa_nil)) pe_non))
      (pss_cons (ps_if (pt_not (pt_val (pe_callO O_is_row (hr.mono (by omega)) (by rfl) (pa_cons (pv 0) (pa_cons (pv 1) (pa_cons (pv 3) pa_nil))))))
        (pss_one (ps_raise rfl (takes_of rfl rfl rfl rfl) (pmk_own0 PySem.F.excBase_ValueError T.n_NoText T.e_NoText.g T.e_NoText.kp (raises_own T.e_NoText.b T.e_NoText.t) rfl)))
        pss_nil)
      (pss_one (ps_ret (pv 3)))))), ?_⟩
    refine ⟨v, rfl, v, .ty "str", _, _, _, rfl, .ty "str", rv.kd, kit_str _, _, rfl, ?_⟩
    have fin : ∀ (H1 : Hp) (u : V) (e : PyData), Same H H1 → Rep K H1 NB u e → lenOk e → (isRowD p n e = true → ∃ l ns, u = .ref l ∧ H1 l = some (.tup (ns.map V.int)) ∧ readR p n d = some ns) → (isRowD p n e = false → readR p n d = none) →
        tSeq (tIfS (tNot (tB (tCall (sp_is_row K) [] E0 (tCons (tVar 0) (tCons (tVar 1) (tCons (tVar 3) tNil)))))) (fun x σ H => (fun cls d H' => E cls d H') (Value.ref (adr mg (Str.ofString "NoText"))) none H) tNext) (tRet (tVar 3)) { nx := fun x H' => Q V.non H', rt := Q } [some (.int p), some (.int n), some v, some u] H1 := fun H1 u e s1 ru lo good bad' => by
      refine ⟨.int p, rfl, .int n, rfl, u, rfl, p, n, u, e, rfl, ru, lo, fun H2 s2 => ⟨_, rfl, ?_⟩⟩
      cases hb : isRowD p n e with
      | true =>
        obtain ⟨l, ns, rfl, el, er⟩ := good hb
        exact iteF ⟨.ref l, rfl, q1 H2 l ns (s1.trans s2) er (s2 _ _ el)⟩
      | false => exact iteT (q2 H2 (s1.trans s2) (bad' hb))
    by_cases hk : kdOf d = .str
    · obtain ⟨z, rfl⟩ : ∃ z, d = .str z := by cases d <;> first | exact ⟨_, rfl⟩ | cases hk
      cases rv
      rw [decide_eq_true hk]
      obtain ⟨l1, l2, l3⟩ := lz z rfl
      refine iteT ⟨.str z, rfl, ⟨_, rfl⟩, z, Str.ofString " ", rfl, rfl, by decide +kernel, Nat.le_trans (show z.length + 2 ≤ 1000 by omega) (sz1000 (Nat.le_refl _)), fun a na => ?_⟩
      generalize h1 : upd H a _ = H1
      obtain ⟨s1, e1⟩ := new_of h1 na
      refine ⟨a, Txt.split z " ", rfl, .inl (.inl e1), l2, l3, fun H2 s2 en => ?_, fun H2 l ns s2 en el => ?_⟩
      · refine fin H2 .non .none (s1.trans s2) .non trivial (fun h => Bool.noConfusion (h : false = true)) (fun _ => ?_)
        show ((numsR (Txt.split z " ")).bind fun ns => if isRowD p n (rowD ns) = true then some ns else none) = _
        rw [en]
        rfl
      · have ln : ns.length ≤ 1000 := by
          unfold numsR at en
          split at en
          · cases en
            rw [List.length_map]
            exact l2
          · cases en
        refine fin H2 (.ref l) (rowD ns) (s1.trans s2) (row_rep (.inl (.inl el))) (by show (ns.map PyData.int).length ≤ 1000; rw [List.length_map]; exact ln) (fun h => ⟨l, ns, rfl, el, ?_⟩) (fun h => ?_)
        · show ((numsR (Txt.split z " ")).bind fun ns => if isRowD p n (rowD ns) = true then some ns else none) = _
          rw [en]
          show (if isRowD p n (rowD ns) = true then some ns else none) = _
          rw [if_pos h]
        · show ((numsR (Txt.split z " ")).bind fun ns => if isRowD p n (rowD ns) = true then some ns else none) = _
          rw [en]
          show (if isRowD p n (rowD ns) = true then some ns else none) = _
          rw [if_neg (by rw [h]; decide)]
    · rw [decide_eq_false hk]
      refine iteF ?_
      refine fin H .non .none (Same.refl H) .non trivial (fun h => Bool.noConfusion (h : false = true)) (fun _ => ?_)
      cases d <;> first | rfl | exact absurd rfl hk
theorem numsR_all {ws : List Str} (h : ∀ y ∈ ws, numB y = true) : numsR ws = some (ws.map valN) := by
  unfold numsR
  rw [if_pos (List.all_eq_true.mpr h)]
theorem read_none {p : Int} {n : Nat} {ws : List Str} {y : Str} (m : y ∈ ws) (hy : ¬ (numB y = true ∧ valN y < p)) : ((numsR ws).bind fun ns => if isRowD p n (rowD ns) = true then some ns else none) = none := by
  unfold numsR
  by_cases ha : ws.all numB = true
  · rw [if_pos ha]
    show (if isRowD p n (rowD (ws.map valN)) = true then some (ws.map valN) else none) = none
    refine if_neg fun h => hy ⟨List.all_eq_true.mp ha y m, ?_⟩
    unfold isRowD rowD at h
    simp only [Bool.and_eq_true, List.all_eq_true] at h
    have := h.2 (.int (valN y)) (List.mem_map_of_mem (List.mem_map_of_mem m))
    simp only [restD, Bool.and_eq_true, decide_eq_true_eq] at this
    exact this.2
  · rw [if_neg ha]
    rfl
theorem isRow_vals {p : Int} {n : Nat} {ws : List Str} (h : ∀ y ∈ ws, numB y = true ∧ valN y < p) : isRowD p n (rowD (ws.map valN)) = decide (ws.length = n) := by
  show (decide (((((ws.map valN).map PyData.int).length : Nat) : Int) = n) && ((ws.map valN).map PyData.int).all (restD p)) = _
  have : (((ws.map valN).map PyData.int).all (restD p)) = true := List.all_eq_true.mpr fun x hx => by
    obtain ⟨i, hi, rfl⟩ := List.mem_map.mp hx
    obtain ⟨y, my, rfl⟩ := List.mem_map.mp hi
    simp only [restD, Bool.and_eq_true, decide_eq_true_eq]
    exact ⟨Int.natCast_nonneg _, (h y my).2⟩
  rw [this, Bool.and_true, List.length_map, List.length_map, Bool.eq_iff_iff]
  simp [Int.ofNat_inj]
def sp_due70 (K : PySem.W.Frag) : Sp := fun vs H Q _ => ∃ (v : V) (d : PyData) (bad : Addr → Prop) (p : Int) (n : Nat), vs = [.int p, .int (n : Int), v] ∧ Rep K H bad v d ∧ (∀ z, d = .str z → z.length ≤ 900 ∧ (Txt.split z " ").length ≤ 1000 ∧ ∀ y ∈ Txt.split z " ", y.length ≤ 640) ∧ 1 ≤ n ∧ n ≤ 100 ∧ 0 ≤ p ∧ p < 1000 ∧
  (∀ H' l ns, Same H H' → readR p n d = some ns → H' l = some (.tup (ns.map V.int)) → Q (.ref l) H') ∧ (∀ H', Same H H' → readR p n d = none → Q (.bl true) H')
theorem ok__law_due (T : Top K mg) : Ok P w K mg base 4 "_law_due" ["_law_p", "_law_n", "_law_text"] (sp_due70 K) := by
  refine T.d__law_due.ok sc__law_due (fun vs H Q E h => ?_) (fun f cdv A outer s H vs Q E hr h => ?_)
  · obtain ⟨v, d, bad, p, n, rfl, _⟩ := h
    rfl
  · obtain ⟨v, d, bad, p, n, rfl, rv, lz, n1, hn, p0, p1, q1, q2⟩ := h
    refine ⟨_, ((pss_cons (ps_if (pt_not (pt_val (pe_callB call_isi (by rfl) T.b_isinstance (by decide +kernel) (pa_cons (pv 2) (pa_cons (pe_bltn (v := .ty "str") (u := .type "str") (by rfl) T.b_str (by decide +kernel) rfl) pa_nil)))))
        (pss_one (ps_ret pe_bl))
        pss_nil)
      (pss_cons (ps_set (i := 3) sc__law_due.nd rfl (.inl rfl) (pe_lst pa_nil))
      (pss_cons (ps_for PassesOwn.never (by rfl) (pi_list (pe_split (pv 2) pe_str)) (pg_name (i := 4) sc__law_due.nd rfl (.inl rfl))
        (pss_cons (ps_if (pt_cmpR op_notIn_seq (pv 4) (pe_lc (own := [("_law_rest", 5)]) (g := gName 5) (by rfl) sc__law_due.nd (pi_range1 (by rfl) T.b_range (pa_cons (pv 0) pa_nil)) (blkOk_by (own := [("_law_rest", 5)]) (N := N__law_due) (sc := defScope s__law_due) (by decide +kernel)) (fun _ _ _ _ _ => (pg_name (i := 5) sc__law_due.nd rfl (.inl rfl))) (fun _ _ _ _ _ => pts_nil) (fun _ _ _ _ _ => (pe_callTy call_str_int (by rfl) T.b_str (by decide +kernel) (pa_cons (pv 5) pa_nil)))) (by rfl))
          (pss_one (ps_ret pe_bl))
          pss_nil)
        (pss_one (ps_expr (pe_bm PySem.F.plainAttrs_list PySem.F.slot_list_append PySem.F.type_list_append mt_append (pv 3) (pa_cons (pe_callTy call_int_str (by rfl) T.b_int (by decide +kernel) (pa_cons (pv 4) pa_nil)) pa_nil))))))
      (pss_cons (ps_if (pt_cmpR op_ne (pe_callB call_len_seq (by rfl) T.b_len (by decide +kernel) (pa_cons (pv 3) pa_nil)) (pv 1) (nomark _))
        (pss_one (ps_ret pe_bl))
        pss_nil)
      (pss_one (ps_ret (pe_callTy call_tuple_of (by rfl) T.b_tuple (by decide +kernel) (pa_cons (pv 3) pa_nil))))))))), ?_⟩
    refine ⟨v, rfl, v, .ty "str", _, _, _, rfl, .ty "str", rv.kd, kit_str _, _, rfl, ?_⟩
    by_cases hk : kdOf d = .str
    · obtain ⟨z, rfl⟩ : ∃ z, d = .str z := by cases d <;> first | exact ⟨_, rfl⟩ | cases hk
      cases rv
      rw [decide_eq_true hk]
      obtain ⟨l1, l2, l3⟩ := lz z rfl
      refine iteF ⟨Nat.zero_le _, fun F nF => ?_⟩
      generalize h1 : upd H F _ = H1
      obtain ⟨s1, e1⟩ := new_of h1 nF
      refine ⟨.str z, rfl, ⟨_, rfl⟩, z, Str.ofString " ", rfl, rfl, by decide +kernel, Nat.le_trans (show z.length + 2 ≤ 1000 by omega) (sz1000 (Nat.le_refl _)), fun L nL => ?_⟩
      generalize h2 : upd H1 L _ = H2
      obtain ⟨s2, e2⟩ := new_of h2 nL
      have s12 := s1.trans s2
      have er : readR p n (.str z) = (numsR (Txt.split z (Str.ofString " "))).bind fun ns => if isRowD p n (rowD ns) = true then some ns else none := rfl
      have l2' : (Txt.split z (Str.ofString " ")).length ≤ 1000 := l2
      have l3' : ∀ y ∈ Txt.split z (Str.ofString " "), y.length ≤ 640 := l3
      generalize Txt.split z (Str.ofString " ") = ws at er l2' l3' e2
      have nLF : L ≠ F := fun e => by
        rw [e, e1] at nL
        cases nL
      refine ⟨L, rfl, ⟨_, .inl (.inl e2)⟩, for_it (walk_list (K := K) (a := L) (xs := ws.map V.str)) (fun i σ H' => Same H H' ∧ H' L = some (.lst (ws.map V.str)) ∧ H' F = some (.lst (((ws.take i).map valN).map V.int)) ∧ (∀ y ∈ ws.take i, numB y = true ∧ valN y < p) ∧ ∃ z4 : Option V, σ = [some (.int p), some (.int n), some (.str z), some (.ref F), z4, none]) ⟨s12, e2, s2 _ _ e1, (fun y hy => (nomatch hy)), none, rfl⟩ (fun i σ H' _ hW => .inl (.inl hW.2.1)) (fun i v σ Ha Ha' hi hW hY => ?_) (fun σ H3 hW => ?_)⟩
      · obtain ⟨rfl, hv⟩ := hY
        obtain ⟨s3, eL, eF, ok, z4, rfl⟩ := hW
        rw [List.getElem?_map] at hv
        obtain ⟨y, gy, rfl⟩ := Option.map_eq_some_iff.mp hv
        refine ⟨.str y, rfl, .int p, rfl, p, rfl, by omega, by omega, fun D nD => lc_it (walk_range (lo := 0) (n := p.toNat)) (fun j H' => Same Ha' H' ∧ H' D = some (.lst (((List.range j).map fun r : Nat => txN (r : Int)).map V.str))) ⟨same_upd nD, upd_same⟩ (fun _ _ _ _ => trivial) (fun j x Hb Hc hj hP hY => ?_) (fun Hc hP => ?_)⟩
        · obtain ⟨rfl, rfl⟩ := hY
          obtain ⟨s4, eD⟩ := hP
          refine ⟨rfl, .int (0 + (j : Int)), rfl, 0 + (j : Int), rfl, Nat.lt_of_le_of_lt (Nat.log2_le_self _) (by omega), ⟨_, eD, ?_, same_mut s4 nD, ?_⟩⟩
          · rw [List.length_map, List.length_map, List.length_range]
            exact small1000 (by omega)
          · rw [upd_same, List.range_succ, List.map_append, List.map_append, Int.zero_add]
            rfl
        · obtain ⟨s4, eD⟩ := hP
          refine ⟨D, _, rfl, .inl (.inl (.inl eD)), rfl, ?_, _, rfl, ?_⟩
          · exact List.all_eq_true.mpr fun v hv => by
              obtain ⟨_, _, rfl⟩ := List.mem_map.mp hv
              rfl
          · have mem : y ∈ ((List.range p.toNat).map fun r : Nat => txN (r : Int)) ↔ numB y = true ∧ valN y < p := by
              rw [num_iff (p := p) (z := y) (by omega), List.mem_map]
              constructor
              · rintro ⟨r, hr, rfl⟩
                have := List.mem_range.mp hr
                exact ⟨r, by omega, rfl⟩
              · rintro ⟨r, hr, rfl⟩
                exact ⟨r, List.mem_range.mpr (by omega), rfl⟩
            rw [if_pos rfl, in_strs]
            by_cases hy : numB y = true ∧ valN y < p
            · rw [decide_eq_true (mem.mpr hy)]
              have s34 := s3.trans s4
              have eF4 := s4 _ _ eF
              have li := List.length_take_le i ws
              have hi' : i < ws.length := by rw [List.length_map] at hi; exact hi
              refine iteF ⟨.ref F, rfl, .inl ⟨rfl, _, .inl (.inl eF4)⟩, .str y, rfl, y, valN y, rfl, numB_int hy.1, l3' y (List.mem_of_getElem? gy), F, _, _, rfl, rfl, eF4, small1000 (by rw [List.length_map, List.length_map]; omega), same_mut s34 nF, ?_, ?_, ?_, _, rfl⟩
              · rw [upd_ne nLF]
                exact s4 _ _ eL
              · rw [upd_same, List.take_add_one, gy, List.map_append, List.map_append]
                rfl
              · intro y' hy'
                rw [List.take_add_one, gy] at hy'
                rcases List.mem_append.mp hy' with hy' | hy'
                · exact ok y' hy'
                · rw [List.mem_singleton.mp hy']
                  exact hy
            · rw [decide_eq_false (fun h => hy (mem.mp h))]
              refine iteT (q2 _ (s3.trans s4) ?_)
              rw [er]
              exact read_none (List.mem_of_getElem? gy) hy
      · obtain ⟨s3, eL, eF, ok, z4, rfl⟩ := hW
        rw [List.take_of_length_le (by rw [List.length_map]; exact Nat.le_refl _)] at eF ok
        refine ⟨.ref F, rfl, F, _, rfl, .inl (.inl (.inl eF)), .int n, rfl, rfl, _, rfl, ite2 (fun hne => ?_) (fun heq => ?_)⟩
        · refine q2 _ s3 ?_
          rw [er, numsR_all fun y m => (ok y m).1]
          show (if isRowD p n (rowD (ws.map valN)) = true then some (ws.map valN) else none) = none
          rw [isRow_vals ok]
          refine if_neg fun h => ?_
          have := of_decide_eq_true h
          rw [List.length_map, List.length_map, this] at hne
          simp at hne
        · refine ⟨.ref F, rfl, F, _, rfl, .inl ⟨.inl (.inl eF), fun t nt => ?_⟩⟩
          generalize h4 : upd H3 t _ = H4
          obtain ⟨s4, e4⟩ := new_of h4 nt
          refine q1 H4 t (ws.map valN) (s3.trans s4) ?_ e4
          rw [er, numsR_all fun y m => (ok y m).1]
          show (if isRowD p n (rowD (ws.map valN)) = true then some (ws.map valN) else none) = _
          rw [isRow_vals ok]
          refine if_pos (decide_eq_true ?_)
          rw [List.length_map, List.length_map] at heq
          simp at heq
          omega
    · rw [decide_eq_false hk]
      refine iteT (q2 H (Same.refl H) ?_)
      cases d <;> first | rfl | exact absurd rfl hk
end
end OC
set_option Elab.async false
set_option linter.all false
set_option maxRecDepth 100000
set_option maxHeartbeats 4000000
namespace OC
open PySem PySem.Spec PyProof.Rows L2
section
variable {P : Program} {w : World} {K : PySem.W.Frag} {mg : Str → Option Value} {base : Heap}
def sp_cisrow (K : PySem.W.Frag) : Sp := fun vs H Q _ => ∃ (b : Addr) (r : List Int) (p : Int) (n : Nat), vs = [.int p, .int (n : Int), .ref b] ∧ SqT K H b (r.map V.int) ∧ RowsOk p n [r] ∧ n ≤ 100 ∧ ∀ H', Same H H' → Q (.bl true) H'
theorem ok__law_is_row (T : Top K mg) : Ok P w K mg base 3 "_law_is_row" ["_law_p", "_law_n", "_law_thing"] (sp_cisrow K) := by
  have O__law_whole := ok__law_whole (P := P) (w := w) (base := base) T
  refine T.d__law_is_row.ok sc__law_is_row (fun vs H Q E h => ?_) (fun f cdv A outer s H vs Q E hr h => ?_)
  · obtain ⟨b, r, p, n, rfl, _⟩ := h
    rfl
  · obtain ⟨b, r, p, n, rfl, hb, okr, hn, q⟩ := h
    have ok := okr r List.mem_cons_self
    refine ⟨_, ((pss_cons (ps_if (PW.pt (pw_or (pt_not (pt_val (pe_callB call_isi (by rfl) T.b_isinstance (by decide +kernel) (pa_cons (pv 2) (pa_cons (pe_bltn (v := .ty "tuple") (u := .type "tuple") (by rfl) T.b_tuple (by decide +kernel) rfl) pa_nil))))) (pw_or1 (pt_cmpR op_ne (pe_callB call_len_seq (by rfl) T.b_len (by decide +kernel) (pa_cons (pv 2) pa_nil)) (pv 1) (nomark _)))))
        (pss_one (ps_ret pe_bl))
        pss_nil)
      (pss_one (ps_ret (pe_cmpR (op_eqNil hr.units) (pe_lc (own := [("_law_rest", 3)]) (g := gName 3) (by rfl) sc__law_is_row.nd (pi_tup (pv 2)) (blkOk_by (own := [("_law_rest", 3)]) (N := N__law_is_row) (sc := defScope s__law_is_row) (by decide +kernel)) (fun _ _ _ _ _ => (pg_name (i := 3) sc__law_is_row.nd rfl (.inl rfl))) (fun _ _ _ _ _ => (pts_one (PW.pt (pw_or (pt_not (pt_val (pe_callO O__law_whole (hr.mono (by omega)) (by rfl) (pa_cons (pv 3) pa_nil)))) (pw_or1 (pt_not (pt_chain op_le op_lt pe_int (pv 3) (pv 0)))))))) (fun _ _ _ _ _ => (pv 3))) (pe_lst pa_nil) (nomark _)))))), ?_⟩
    refine ⟨.ref b, rfl, .ref b, .ty "tuple", _, _, _, rfl, .ty "tuple", kd_tup hb, kit_tuple _, _, rfl, ?_⟩
    refine iteF ⟨.ref b, rfl, b, _, rfl, .inr hb, .int n, rfl, rfl, _, rfl, iteNS (by rw [List.length_map, ok.1]) ?_⟩
    refine ⟨.ref b, rfl, b, rfl, ⟨_, hb⟩, fun D nD => lc_it (walk_tup (K := K) (a := b) (xs := r.map V.int)) (fun k H' => Same H H' ∧ H' D = some (.lst [])) ⟨same_upd nD, upd_same⟩ (fun k H' _ hP => Same.tup hP.1 hb) (fun k v H3' H3 hk' hP hY => ?_) (fun H3 hP => ?_)⟩
    · obtain ⟨rfl, hv⟩ := hY
      obtain ⟨s3, eD⟩ := hP
      rw [List.getElem?_map] at hv
      obtain ⟨v, hv', rfl⟩ := Option.map_eq_some_iff.mp hv
      have bv := ok.2 v (List.mem_of_getElem? hv')
      refine ⟨rfl, .int v, rfl, .int v, .int, rfl, kd_int v, _, rfl, iteF ?_⟩
      refine ⟨.int v, rfl, 0, v, rfl, rfl, _, rfl, ?_⟩
      rw [decide_eq_true bv.1]
      refine iteT ⟨.int p, rfl, v, p, rfl, rfl, _, rfl, ?_⟩
      rw [decide_eq_true bv.2]
      exact iteF ⟨s3, eD⟩
    · obtain ⟨s3, eD⟩ := hP
      refine ⟨Nat.zero_le _, fun u nu => ?_⟩
      generalize h4 : upd _ u _ = H4
      obtain ⟨s4, e4⟩ := new_of h4 nu
      exact ⟨D, u, _, rfl, rfl, s4 _ _ eD, e4, q H4 (s3.trans s4)⟩
theorem same_step71 (T : Top K mg) {k : Nat} {L : PyData → Prop} (O__law_same : Ok P w K mg base (k + 1) "_law_same" ["_law_found", "_law_due_here"] (sp_same K L)) : Ok P w K mg base (k + 2) "_law_same" ["_law_found", "_law_due_here"] (sp_same K (Lv L)) := by
  have O__law_whole := ok__law_whole (P := P) (w := w) (base := base) T
  refine T.d__law_same.ok sc__law_same (fun vs H Q E h => ?_) (fun f cdv A outer s H vs Q E hr h => ?_)
  · obtain ⟨v, u, d, rfl, _⟩ := h
    rfl
  · obtain ⟨v, u, d, rfl, hv, hu, hL, q⟩ := h
    refine ⟨_, ((pss_cons (ps_if (pt_val (pe_callB call_isi (by rfl) T.b_isinstance (by decide +kernel) (pa_cons (pv 1) (pa_cons (pe_bltn (v := .ty "tuple") (u := .type "tuple") (by rfl) T.b_tuple (by decide +kernel) rfl) pa_nil))))
        (pss_cons (ps_if (PW.pt (pw_or (pt_not (pt_val (pe_callB call_isi (by rfl) T.b_isinstance (by decide +kernel) (pa_cons (pv 0) (pa_cons (pe_bltn (v := .ty "tuple") (u := .type "tuple") (by rfl) T.b_tuple (by decide +kernel) rfl) pa_nil))))) (pw_or1 (pt_cmpR op_ne (pe_callB call_len_seq (by rfl) T.b_len (by decide +kernel) (pa_cons (pv 0) pa_nil)) (pe_callB call_len_seq (by rfl) T.b_len (by decide +kernel) (pa_cons (pv 1) pa_nil)) (nomark _)))))
          (pss_one (ps_ret pe_bl))
          pss_nil)
        (pss_one (ps_ret (pe_cmpR (op_eqNil hr.units) (pe_lc (own := [("_law_one", 2), ("_law_other", 3)]) (g := gTup K 2 (gCons (gName 2) (gCons (gName 3) gNil))) (by rfl) sc__law_same.nd (RZ.pi_zipA (by rfl) T.b_zip (pa_cons (pv 0) (pa_cons (pv 1) pa_nil))) (blkOk_by (own := [("_law_one", 2), ("_law_other", 3)]) (N := N__law_same) (sc := defScope s__law_same) (by decide +kernel)) (fun _ _ _ _ _ => (pg_tup (by rfl) (pgs_cons (pg_name (i := 2) sc__law_same.nd rfl (.inl rfl)) (pgs_cons (pg_name (i := 3) sc__law_same.nd rfl (.inl rfl)) pgs_nil)))) (fun _ _ _ _ _ => (pts_one (pt_not (pt_val (pe_callO O__law_same (hr.mono (by omega)) (by rfl) (pa_cons (pv 2) (pa_cons (pv 3) pa_nil))))))) (fun _ _ _ _ _ => pe_int)) (pe_lst pa_nil) (nomark _)))))
        pss_nil)
      (pss_cons (ps_if (pt_cmpR op_isN (pv 1) pe_non (nomark _))
        (pss_one (ps_ret (pe_cmpR op_isN (pv 0) pe_non (nomark _))))
        pss_nil)
      (pss_cons (ps_if (pt_val (pe_callB call_isi (by rfl) T.b_isinstance (by decide +kernel) (pa_cons (pv 1) (pa_cons (pe_bltn (v := .ty "bool") (u := .type "bool") (by rfl) T.b_bool (by decide +kernel) rfl) pa_nil))))
        (pss_one (ps_ret (pe_and (pe_callB call_isi (by rfl) T.b_isinstance (by decide +kernel) (pa_cons (pv 0) (pa_cons (pe_bltn (v := .ty "bool") (u := .type "bool") (by rfl) T.b_bool (by decide +kernel) rfl) pa_nil))) (pe_one (pe_cmpR op_eq (pv 0) (pv 1) (nomark _))))))
        pss_nil)
      (pss_cons (ps_if (pt_val (pe_callB call_isi (by rfl) T.b_isinstance (by decide +kernel) (pa_cons (pv 1) (pa_cons (pe_bltn (v := .ty "str") (u := .type "str") (by rfl) T.b_str (by decide +kernel) rfl) pa_nil))))
        (pss_one (ps_ret (pe_and (pe_callB call_isi (by rfl) T.b_isinstance (by decide +kernel) (pa_cons (pv 0) (pa_cons (pe_bltn (v := .ty "str") (u := .type "str") (by rfl) T.b_str (by decide +kernel) rfl) pa_nil))) (pe_one (pe_cmpR op_eq (pv 0) (pv 1) (nomark _))))))
        pss_nil)
      (pss_one (ps_ret (pe_and (pe_callO O__law_whole (hr.mono (by omega)) (by rfl) (pa_cons (pv 0) pa_nil)) (pe_one (pe_cmpR op_eq (pv 0) (pv 1) (nomark _))))))))))), ?_⟩
    have tv := dp_kd hv
    have tu := dp_kd hu
    refine ⟨u, rfl, u, .ty "tuple", _, _, _, rfl, .ty "tuple", tu, kit_tuple _, _, rfl, ?_⟩
    rcases hL with hs | ⟨ds, rfl, hsz, hds⟩
    · cases d with
      | none =>
        cases hv
        cases hu
        exact iteF ⟨.non, rfl, rfl, _, rfl, iteT ⟨.non, rfl, rfl, q H (Same.refl H)⟩⟩
      | bool b =>
        cases hv
        cases hu
        refine iteF ⟨.bl b, rfl, rfl, _, rfl, iteF ?_⟩
        refine ⟨.bl b, rfl, .bl b, .ty "bool", _, _, _, rfl, .ty "bool", tu, kit_bool _, _, rfl, iteT ?_⟩
        refine ⟨.bl b, rfl, .bl b, .ty "bool", _, _, _, rfl, .ty "bool", tv, kit_bool _, _, rfl, iteT ⟨.bl b, rfl, .bl b, rfl, rfl, ?_⟩⟩
        rw [decide_eq_true rfl]
        exact q H (Same.refl H)
      | int i =>
        cases hv
        cases hu
        refine iteF ⟨.int i, rfl, rfl, _, rfl, iteF ?_⟩
        refine ⟨.int i, rfl, .int i, .ty "bool", _, _, _, rfl, .ty "bool", tu, kit_bool _, _, rfl, iteF ?_⟩
        refine ⟨.int i, rfl, .int i, .ty "str", _, _, _, rfl, .ty "str", tu, kit_str _, _, rfl, iteF ?_⟩
        refine ⟨.int i, rfl, .int i, .int, rfl, kd_int i, _, rfl, iteT ⟨.int i, rfl, .int i, rfl, rfl, ?_⟩⟩
        rw [decide_eq_true rfl]
        exact q H (Same.refl H)
      | str x =>
        cases hv
        cases hu
        refine iteF ⟨.str x, rfl, rfl, _, rfl, iteF ?_⟩
        refine ⟨.str x, rfl, .str x, .ty "bool", _, _, _, rfl, .ty "bool", tu, kit_bool _, _, rfl, iteF ?_⟩
        refine ⟨.str x, rfl, .str x, .ty "str", _, _, _, rfl, .ty "str", tu, kit_str _, _, rfl, iteT ?_⟩
        refine ⟨.str x, rfl, .str x, .ty "str", _, _, _, rfl, .ty "str", tv, kit_str _, _, rfl, iteT ⟨.str x, rfl, .str x, rfl, rfl, ?_⟩⟩
        rw [decide_eq_true rfl]
        exact q H (Same.refl H)
      | list ds => exact hs.elim
      | tuple ds => exact hs.elim
      | dict ds => exact hs.elim
    · cases hv with
      | @tup a xs _ hA hxs =>
        cases hu with
        | @tup b ys _ hB hys =>
          have lx := dpAll_len hxs
          have ly := dpAll_len hys
          have lxy : xs.length = ys.length := lx.trans ly.symm
          refine iteT ⟨.ref a, rfl, .ref a, .ty "tuple", _, _, _, rfl, .ty "tuple", tv, kit_tuple _, _, rfl, iteF ⟨.ref a, rfl, a, xs, rfl, .inr hA, .ref b, rfl, b, ys, rfl, .inr hB, rfl, _, rfl, ?_⟩⟩
          rw [decide_eq_true (show V.int ((xs.length : Nat) : Int) = V.int ((ys.length : Nat) : Int) by rw [lxy])]
          refine iteF ⟨.ref a, rfl, .ref b, rfl, a, b, xs, ys, rfl, .inr ⟨hA, hB, fun D nD => ?_⟩⟩
          have ln : xs.length = min xs.length ys.length := by omega
          refine lc_it (walk_zipT (K := K) (a := a) (b := b) ln) (fun i H' => Same H H' ∧ H' D = some (.lst [])) ⟨same_upd nD, upd_same⟩ (fun i H' _ hP => ⟨Same.tup hP.1 hA, Same.tup hP.1 hB⟩) (fun i x H1 H2 hi hP hY => ?_) (fun H' hP => ?_)
          · obtain ⟨Ta, x1, y1, rfl, nT, rfl, e1, e2⟩ := hY
            obtain ⟨sm, eD⟩ := hP
            have sT : Same H1 (upd H1 Ta (.tup [x1, y1])) := same_upd nT
            obtain ⟨d1, g1, m1, p1⟩ := dpAll_get hxs e1
            obtain ⟨d2, g2, m2, p2⟩ := dpAll_get hys e2
            have ed : d1 = d2 := Option.some.inj (g1.symm.trans g2)
            subst ed
            refine ⟨Ta, [x1, y1], rfl, .inl (.inl upd_same), rfl, x1, [y1], rfl, y1, [], rfl, rfl, rfl, x1, rfl, y1, rfl, x1, y1, d1, rfl, dp_same (sm.trans sT) _ _ p1, dp_same (sm.trans sT) _ _ p2, hds _ m1, fun H4 s4 => ⟨true, rfl, iteF ⟨(sm.trans sT).trans s4, s4 _ _ (sT _ _ eD)⟩⟩⟩
          · obtain ⟨sm, eD⟩ := hP
            refine ⟨sz1000 (by decide), fun N nN => ⟨D, N, [], rfl, rfl, same_upd nN _ _ eD, upd_same, ?_⟩⟩
            exact q _ (sm.trans (same_upd nN))
theorem ok_same70 (T : Top K mg) : Ok P w K mg base 3 "_law_same" ["_law_found", "_law_due_here"] (sp_same K (Lv (Lv L0))) :=
  same_step71 T (same_step71 T (ok_never T.d__law_same sc__law_same L0 (fun _ h => h) rfl))
end
end OC
set_option Elab.async false
set_option linter.all false
set_option maxRecDepth 100000
set_option maxHeartbeats 4000000
namespace OC
open PySem PySem.Spec PyProof.Rows L2
section
variable {P : Program} {w : World} {K : PySem.W.Frag} {mg : Str → Option Value} {base : Heap}
/-! ### texts that are short and plain -/
structure Tx (L : Nat) (x : Str) : Prop where
  len : x.length ≤ L
  ch : ∀ c ∈ x.cps.toList, c < 200
theorem Tx.mono {L L' : Nat} {x : Str} (h : Tx L x) (l : L ≤ L') : Tx L' x := ⟨Nat.le_trans h.len l, h.ch⟩
theorem Tx.app {L M : Nat} {x y : Str} (h : Tx L x) (g : Tx M y) : Tx (L + M) (x ++ y) := by
  refine ⟨by rw [Str.length_append]; have := h.len; have := g.len; omega, fun c hc => ?_⟩
  rw [show (x ++ y).cps.toList = x.cps.toList ++ y.cps.toList from TL.tl_append x y] at hc
  exact (List.mem_append.mp hc).elim (h.ch c) (g.ch c)
theorem Tx.cut {L : Nat} {x : Str} (h : Tx L x) (lo hi : Option Int) : Tx L (cutS x lo hi) := by
  refine ⟨Nat.le_trans (cutS_length x lo hi) h.len, fun c hc => h.ch c ?_⟩
  unfold cutS at hc
  exact List.mem_of_mem_drop (List.mem_of_mem_take hc)
theorem Tx.fit {L : Nat} {x : Str} (h : Tx L x) (l : L ≤ 300) : FitZ 3010 0 (.str x) := by
  refine ⟨?_, by simp [PyData.showable], by simp [PyData.depth]⟩
  simp only [PyData.shown]
  have := PySem.StrLaws.reprText_len x fun c hc => Nat.lt_trans (h.ch c hc) (by decide)
  have := h.len
  omega
theorem spl_len (S : List Nat) : ∀ (r acc : List Nat) (k : Nat), ∀ y ∈ TL.spl S k acc r, y.length ≤ acc.length + r.length
  | [], acc, k, y, hy => by
    cases k <;> (unfold TL.spl at hy; rw [List.mem_singleton.mp hy]; simp)
  | c :: r, acc, 0, y, hy => by
    unfold TL.spl at hy
    split at hy
    · rcases List.mem_cons.mp hy with rfl | hy
      · simp
      · have := spl_len S r [] _ y hy
        simp at this ⊢
        omega
    · have := spl_len S r (acc ++ [c]) 0 y hy
      simp at this ⊢
      omega
  | c :: r, acc, k + 1, y, hy => by
    unfold TL.spl at hy
    have := spl_len S r acc k y hy
    simp at this ⊢
    omega
theorem Tx.split {L : Nat} {x : Str} (h : Tx L x) (l : L ≤ 300) : x.length ≤ 900 ∧ (Txt.split x " ").length ≤ 1000 ∧ ∀ y ∈ Txt.split x " ", y.length ≤ 300 := by
  have := h.len
  refine ⟨by omega, by have := PyProof.Rows.split_le x " "; omega, fun y hy => ?_⟩
  have e := TL.split_spl x " " (by decide) (TL.kind_ok (by decide +kernel))
  have m : TL.tl y ∈ (Txt.split x " ").map TL.tl := List.mem_map_of_mem hy
  rw [e] at m
  have h2 : (TL.tl y).length ≤ 0 + (TL.tl x).length := spl_len _ _ _ _ _ m
  have e1 := TL.len_tl x
  have e2 := TL.len_tl y
  omega
theorem join_ch {S : List Nat} (hS : ∀ c ∈ S, c < 200) : ∀ ps : List (List Nat), (∀ p ∈ ps, ∀ c ∈ p, c < 200) → ∀ c ∈ TL.joinL S ps, c < 200
  | [], _, c, hc => nomatch hc
  | [p], h, c, hc => h p List.mem_cons_self c hc
  | p :: q :: r, h, c, hc => by
    unfold TL.joinL at hc
    rcases List.mem_append.mp hc with hc | hc
    · exact h p List.mem_cons_self c hc
    · rcases List.mem_append.mp hc with hc | hc
      · exact hS c hc
      · exact join_ch hS (q :: r) (fun p hp => h p (List.mem_cons_of_mem _ hp)) c hc
theorem txN_ok {x : Int} (h0 : 0 ≤ x) (h1 : x < 1000) : Tx 6 (txN x) := by
  obtain ⟨r, rfl⟩ := Int.eq_ofNat_of_zero_le h0
  have := numB_dig (txN_num (r := r) (by omega)).1
  exact ⟨this.2.1, fun c hc => by have := this.2.2.1 c hc; omega⟩
theorem rowT_tx {r : List Int} (h : ∀ x ∈ r, 0 ≤ x ∧ x < 1000) (l : r.length ≤ 9) : Tx 70 (rowT r) := by
  unfold rowT
  rw [TL.join_eq]
  constructor
  · refine Nat.le_trans (StrLaws.join_length_le " " (r.map txN)) ?_
    have : ∀ r : List Int, (∀ x ∈ r, 0 ≤ x ∧ x < 1000) → ((r.map txN).map (·.length)).sum ≤ 6 * r.length := by
      intro r
      induction r with
      | nil => intro _; simp
      | cons x r ih =>
        intro h
        have a := (txN_ok (h x List.mem_cons_self).1 (h x List.mem_cons_self).2).len
        have b := ih fun y hy => h y (List.mem_cons_of_mem _ hy)
        simp only [List.map_cons, List.sum_cons, List.length_cons]
        simp only [List.map_map] at b ⊢
        omega
    have := this r h
    have e : (" " : Str).length = 1 := rfl
    rw [List.length_map, e]
    omega
  · intro c hc
    rw [show (Str.join " " (r.map txN)).cps.toList = TL.joinL (TL.tl " ") ((r.map txN).map TL.tl) from TL.tl_join _ _] at hc
    refine join_ch (by decide) _ (fun p hp c hc => ?_) c hc
    obtain ⟨y, hy, rfl⟩ := List.mem_map.mp hp
    obtain ⟨x, hx, rfl⟩ := List.mem_map.mp hy
    exact (txN_ok (h x hx).1 (h x hx).2).ch c hc
theorem dbl_ch : ∀ (r : List Nat), (∀ c ∈ r, c < 200) → ∀ c ∈ StrLaws.dbl 32 r, c < 200
  | [], _, c, hc => nomatch hc
  | k :: r, h, c, hc => by
    have ih := dbl_ch r fun y hy => h y (List.mem_cons_of_mem _ hy)
    have hk := h k List.mem_cons_self
    unfold StrLaws.dbl at hc
    split at hc
    · rcases List.mem_cons.mp hc with rfl | hc
      · exact hk
      · rcases List.mem_cons.mp hc with rfl | hc
        · exact hk
        · exact ih c hc
    · rcases List.mem_cons.mp hc with rfl | hc
      · exact hk
      · exact ih c hc
theorem Tx.repl {L : Nat} {x : Str} (h : Tx L x) : Tx (3 * L + 2) (Txt.replace x " " "  ") := by
  refine ⟨?_, fun c hc => ?_⟩
  · have := TK.replace_len x " " "  "
    have e : ("  " : Str).length = 2 := rfl
    rw [e] at this
    have := h.len
    omega
  · have e : (Txt.replace x " " "  ").cps.toList = StrLaws.dbl 32 x.cps.toList := StrLaws.replace_double x 32
    rw [e] at hc
    exact dbl_ch _ h.ch c hc
theorem sp_tl : TL.tl (Str.ofString " ") = [32] := by decide +kernel
theorem txN_tl {x : Int} (h0 : 0 ≤ x) : ∀ c ∈ TL.tl (txN x), 48 ≤ c ∧ c ≤ 57 := by
  obtain ⟨n, rfl⟩ : ∃ n : Nat, x = (n : Int) := ⟨x.toNat, by omega⟩
  intro c hc
  have e : TL.tl (txN (n : Int)) = TL.numL n := TL.tl_num n
  rw [e] at hc
  exact TL.numL_digits n c hc
/-- numbers that are told as texts -/
def Nums (r : List Int) : Prop := ∀ x ∈ r, 0 ≤ x ∧ x < 1000
theorem rowT_split {r : List Int} (h : Nums r) (ne : r ≠ []) : Txt.split (rowT r) " " = r.map txN :=
  TL.split_join (s := 32) (S := []) sp_tl (by decide +kernel) (fun e => ne (List.map_eq_nil_iff.mp e)) fun z hz hc => by
    obtain ⟨x, mx, rfl⟩ := List.mem_map.mp hz
    have := txN_tl (h x mx).1 32 hc
    omega
theorem nums_row {r : List Int} (h : Nums r) : numsR (r.map txN) = some r := by
  have a : ∀ x ∈ r, numB (txN x) = true ∧ valN (txN x) = x := fun x hx => by
    obtain ⟨n, rfl⟩ : ∃ n : Nat, x = (n : Int) := ⟨x.toNat, by have := (h x hx).1; omega⟩
    exact txN_num (by have := (h _ hx).2; omega)
  unfold numsR
  rw [if_pos (List.all_eq_true.mpr fun z hz => by
    obtain ⟨x, mx, rfl⟩ := List.mem_map.mp hz
    exact (a x mx).1), List.map_map]
  congr 1
  conv => rhs; rw [← List.map_id r]
  exact List.map_congr_left fun x hx => (a x hx).2
theorem read_rowT {p : Int} {n : Nat} {r : List Int} (h : RowsOk p n [r]) (p1 : p ≤ 1000) (n1 : 1 ≤ n) : readR p n (.str (rowT r)) = some r := by
  have ok := h r List.mem_cons_self
  have nu : Nums r := fun x hx => ⟨(ok.2 x hx).1, by have := (ok.2 x hx).2; omega⟩
  have ne : r ≠ [] := fun z => by rw [z] at ok; have := ok.1; simp at this; omega
  show ((numsR (Txt.split (rowT r) " ")).bind fun ns => if isRowD p n (rowD ns) = true then some ns else none) = some r
  rw [rowT_split nu ne, nums_row nu]
  show (if isRowD p n (rowD r) = true then some r else none) = some r
  rw [if_pos (isRow_row ok)]
/-- a thing that is asked about here -/
def Ok70 (e : PyData) : Prop := FitS e ∧ ∀ z, e = .str z → Tx 300 z
theorem ok70_str {z : Str} (h : Tx 300 z) : Ok70 (.str z) := ⟨(h.fit (by decide)).fit (by decide) (by decide), fun y e => by cases e; exact h⟩
theorem readR_len {p : Int} {n : Nat} {d : PyData} {ns : List Int} (h : readR p n d = some ns) (n100 : n ≤ 100) : ns.length ≤ 100 := by
  unfold readR at h
  split at h
  · rename_i z
    cases hn : numsR (Txt.split z " ") with
    | none => rw [hn] at h; cases h
    | some ms =>
      rw [hn] at h
      have h' : (if isRowD p n (rowD ms) = true then some ms else none) = some ns := h
      split at h'
      · rename_i c
        cases h'
        unfold isRowD rowD at c
        simp only [Bool.and_eq_true, decide_eq_true_eq, List.length_map] at c
        omega
      · cases h'
  · cases h
def odd70 : List PyData := [.none, .bool true, .bool false, .int (-1), .int 0, .int 1, .int 5, .int (10 ^ 29), .str "", .str "a", .str "5", .tuple [], .tuple [.int 0], .tuple [.tuple []], .list [], .list [.int 0], .dict [], .dict [(.str "a", .int 1)], .tuple [.int 1, .int 0], .tuple [.tuple [.int 1, .int 0]], .str "open", .tuple [.int 5, .int 1, .tuple [], .tuple []]]
def sp_odd70 (K : PySem.W.Frag) : Sp := fun vs H Q _ => ∃ (d c : Addr) (t : Int), vs = [.ref d] ∧ Deck H d c t ∧ t < 1000000 ∧ ∀ H' v e, Kept d c H H' → Deck H' d c (t + 1) → Rep K H' (fun a => H a ≠ none) v e → e ∈ odd70 → Q v H'
theorem ok__law_odd (T : Top K mg) : Ok P w K mg base 2 "_law_odd" ["_law_deck_here"] (sp_odd70 K) := by
  have O__law_draw := ok__law_draw (P := P) (w := w) (base := base) T
  refine T.d__law_odd.ok sc__law_odd (fun vs H Q E h => ?_) (fun f cdv A outer s H vs Q E hr h => ?_)
  · obtain ⟨d, c, t, rfl, _⟩ := h
    rfl
  · obtain ⟨d, c, t, rfl, D0, ht, q⟩ := h
    refine ⟨_, ((pss_cons (ps_set (i := 1) sc__law_odd.nd rfl (.inl rfl) (pe_lst (pa_cons pe_non (pa_cons pe_bl (pa_cons pe_bl (pa_cons (pe_un un_neg pe_int) (pa_cons pe_int (pa_cons pe_int (pa_cons pe_int (pa_cons (pe_op op_pow pe_int pe_int) (pa_cons pe_str (pa_cons pe_str (pa_cons pe_str (pa_cons (pe_tup pa_nil) (pa_cons (pe_tup (pa_cons pe_int pa_nil)) (pa_cons (pe_tup (pa_cons (pe_tup pa_nil) pa_nil)) (pa_cons (pe_lst pa_nil) (pa_cons (pe_lst (pa_cons pe_int pa_nil)) (pa_cons pe_dnewK (pa_cons (pe_disp (pps_cons pe_str pe_int pps_nil) (by rfl) (by rfl) (fun z => by cases z) (by decide)) (pa_cons (pe_tup (pa_cons pe_int (pa_cons pe_int pa_nil))) pa_nil)))))))))))))))))))))
      (pss_one (ps_ret (pe_ix ix_list (pe_op op_cat (pv 1) (pe_lst (pa_cons (pe_tup (pa_cons (pe_tup (pa_cons pe_int (pa_cons pe_int pa_nil))) pa_nil)) (pa_cons pe_str (pa_cons (pe_tup (pa_cons pe_int (pa_cons pe_int (pa_cons (pe_tup pa_nil) (pa_cons (pe_tup pa_nil) pa_nil))))) pa_nil))))) (pe_callO O__law_draw (hr.mono (by omega)) (by rfl) (pa_cons (pv 0) (pa_cons pe_int pa_nil))) (fun _ _ => rfl)))))), ?_⟩
    have sz : ∀ n : Nat, n ≤ 22 → n ≤ sizeLine := fun n h => Nat.le_trans h (by decide)
    refine ⟨1, rfl, 10, 29, rfl, rfl, ⟨by decide, by decide, by decide⟩, sz 0 (by decide), fun t0 n0 => ?_⟩
    have s0 : Same H (upd H t0 (.tup [])) := same_upd n0
    have e0 : (upd H t0 (.tup [])) t0 = some (.tup []) := upd_same
    generalize upd H t0 (.tup []) = H0 at s0 e0 ⊢
    refine ⟨sz 1 (by decide), fun t1 n1 => ?_⟩
    have s1 : Same H0 (upd H0 t1 (.tup [.int 0])) := same_upd n1
    have e1 : (upd H0 t1 (.tup [.int 0])) t1 = some (.tup [.int 0]) := upd_same
    generalize upd H0 t1 (.tup [.int 0]) = H1 at s1 e1 ⊢
    refine ⟨sz 0 (by decide), fun t2 n2 => ?_⟩
    have s2 : Same H1 (upd H1 t2 (.tup [])) := same_upd n2
    have e2 : (upd H1 t2 (.tup [])) t2 = some (.tup []) := upd_same
    generalize upd H1 t2 (.tup []) = H2 at s2 e2 ⊢
    refine ⟨sz 1 (by decide), fun t3 n3 => ?_⟩
    have s3 : Same H2 (upd H2 t3 (.tup [.ref t2])) := same_upd n3
    have e3 : (upd H2 t3 (.tup [.ref t2])) t3 = some (.tup [.ref t2]) := upd_same
    generalize upd H2 t3 (.tup [.ref t2]) = H3 at s3 e3 ⊢
    refine ⟨sz 0 (by decide), fun t4 n4 => ?_⟩
    have s4 : Same H3 (upd H3 t4 (.lst [])) := same_upd n4
    have e4 : (upd H3 t4 (.lst [])) t4 = some (.lst []) := upd_same
    generalize upd H3 t4 (.lst []) = H4 at s4 e4 ⊢
    refine ⟨sz 1 (by decide), fun t5 n5 => ?_⟩
    have s5 : Same H4 (upd H4 t5 (.lst [.int 0])) := same_upd n5
    have e5 : (upd H4 t5 (.lst [.int 0])) t5 = some (.lst [.int 0]) := upd_same
    generalize upd H4 t5 (.lst [.int 0]) = H5 at s5 e5 ⊢
    intro t6 n6
    have s6 : Same H5 (upd H5 t6 (.dK [])) := same_upd n6
    have e6 : (upd H5 t6 (.dK [])) t6 = some (.dK []) := upd_same
    generalize upd H5 t6 (.dK []) = H6 at s6 e6 ⊢
    intro t7 n7
    refine ⟨upd_same, [(Sum.inr "a", .int 1)], rfl, by decide, ?_⟩
    have s7 : Same H6 (upd (upd H6 t7 (.dK [])) t7 (.dK (mergeK [] [(Sum.inr "a", .int 1)]))) := by
      rw [upd_upd]
      exact same_upd n7
    have e7 : (upd (upd H6 t7 (.dK [])) t7 (.dK (mergeK [] [(Sum.inr "a", .int 1)]))) t7 = some (.dK (mergeK [] [(Sum.inr "a", .int 1)])) := upd_same
    generalize upd (upd H6 t7 (.dK [])) t7 (.dK (mergeK [] [(Sum.inr "a", .int 1)])) = H7 at s7 e7 ⊢
    refine ⟨sz 2 (by decide), fun t8 n8 => ?_⟩
    have s8 : Same H7 (upd H7 t8 (.tup [.int 1, .int 0])) := same_upd n8
    have e8 : (upd H7 t8 (.tup [.int 1, .int 0])) t8 = some (.tup [.int 1, .int 0]) := upd_same
    generalize upd H7 t8 (.tup [.int 1, .int 0]) = H8 at s8 e8 ⊢
    refine ⟨sz 19 (by decide), fun t9 n9 => ?_⟩
    generalize h9 : upd H8 t9 _ = H9
    obtain ⟨s9, e9⟩ := new_of h9 n9
    refine ⟨.ref t9, rfl, sz 2 (by decide), fun t10 n10 => ?_⟩
    have s10 : Same H9 (upd H9 t10 (.tup [.int 1, .int 0])) := same_upd n10
    have e10 : (upd H9 t10 (.tup [.int 1, .int 0])) t10 = some (.tup [.int 1, .int 0]) := upd_same
    generalize upd H9 t10 (.tup [.int 1, .int 0]) = H10 at s10 e10 ⊢
    refine ⟨sz 1 (by decide), fun t11 n11 => ?_⟩
    have s11 : Same H10 (upd H10 t11 (.tup [.ref t10])) := same_upd n11
    have e11 : (upd H10 t11 (.tup [.ref t10])) t11 = some (.tup [.ref t10]) := upd_same
    generalize upd H10 t11 (.tup [.ref t10]) = H11 at s11 e11 ⊢
    refine ⟨sz 0 (by decide), fun t12 n12 => ?_⟩
    have s12 : Same H11 (upd H11 t12 (.tup [])) := same_upd n12
    have e12 : (upd H11 t12 (.tup [])) t12 = some (.tup []) := upd_same
    generalize upd H11 t12 (.tup []) = H12 at s12 e12 ⊢
    refine ⟨sz 0 (by decide), fun t13 n13 => ?_⟩
    have s13 : Same H12 (upd H12 t13 (.tup [])) := same_upd n13
    have e13 : (upd H12 t13 (.tup [])) t13 = some (.tup []) := upd_same
    generalize upd H12 t13 (.tup []) = H13 at s13 e13 ⊢
    refine ⟨sz 4 (by decide), fun t14 n14 => ?_⟩
    have s14 : Same H13 (upd H13 t14 (.tup [.int 5, .int 1, .ref t12, .ref t13])) := same_upd n14
    have e14 : (upd H13 t14 (.tup [.int 5, .int 1, .ref t12, .ref t13])) t14 = some (.tup [.int 5, .int 1, .ref t12, .ref t13]) := upd_same
    generalize upd H13 t14 (.tup [.int 5, .int 1, .ref t12, .ref t13]) = H14 at s14 e14 ⊢
    refine ⟨sz 3 (by decide), fun t15 n15 => ?_⟩
    generalize h15 : upd H14 t15 _ = H15
    obtain ⟨s15, e15⟩ := new_of h15 n15
    have f15 : H15 t9 = some (.lst _) := (s10.trans (s11.trans (s12.trans (s13.trans (s14.trans s15))))) _ _ e9
    refine ⟨t9, t15, _, _, rfl, rfl, f15, e15, sz 22 (by decide), fun L nL => ?_⟩
    generalize hL : upd H15 L _ = HL
    obtain ⟨sL, eL⟩ := new_of hL nL
    have a15 := sL
    have a14 := s15.trans a15
    have a13 := s14.trans a14
    have a12 := s13.trans a13
    have a11 := s12.trans a12
    have a10 := s11.trans a11
    have a9 := s10.trans a10
    have a8 := s9.trans a9
    have a7 := s8.trans a8
    have a6 := s7.trans a7
    have a5 := s6.trans a6
    have a4 := s5.trans a5
    have a3 := s4.trans a4
    have a2 := s3.trans a3
    have a1 := s2.trans a2
    have a0 := s1.trans a1
    have aH := s0.trans a0
    have b4 : H t4 = none := ((s0.trans s1).trans (s2.trans s3)).free n4
    have b5 : H t5 = none := (((s0.trans s1).trans (s2.trans s3)).trans s4).free n5
    refine ⟨.ref d, rfl, d, c, t, 22, rfl, D0.same aH, ht, by decide, by decide, fun H' r k' D' r0 r1 => ?_⟩
    have bL : ¬ Bad d c L := by
      intro z
      have hd := (D0.same (s0.trans (s1.trans (s2.trans (s3.trans (s4.trans (s5.trans (s6.trans (s7.trans (s8.trans (s9.trans (s10.trans (s11.trans (s12.trans (s13.trans (s14.trans s15)))))))))))))))).fresh nL
      exact hd z
    have eL' := k' _ _ eL (fun z => bL (.inl z)) (fun z => bL (.inr z))
    have st : Stays (fun a => H a ≠ none) _ H' := Stays.kept2 (D0.same aH) k' (fun z => by rw [D0.hd] at z; cases z) (fun z => by obtain ⟨cells, h1, _⟩ := D0.hc; rw [h1] at z; cases z)
    have all : RepAll K H' (fun a => H a ≠ none) [.non, .bl true, .bl false, .int (-1), .int 0, .int 1, .int 5, .int (10 ^ 29), .str "", .str "a", .str "5", .ref t0, .ref t1, .ref t3, .ref t4, .ref t5, .ref t6, .ref t7, .ref t8, .ref t11, .str "open", .ref t14] odd70 := by
      refine repAll_stays st _ _ ?_
      exact .cons .non <| .cons (.bl _) <| .cons (.bl _) <| .cons (.int _) <| .cons (.int _) <| .cons (.int _) <| .cons (.int _) <| .cons (.int _) <| .cons (.str _) <| .cons (.str _) <| .cons (.str _) <|
        .cons (.tup (.inl (.inl (a0 _ _ e0))) .nil) <| .cons (.tup (.inl (.inl (a1 _ _ e1))) (.cons (.int 0) .nil)) <| .cons (.tup (.inl (.inl (a3 _ _ e3))) (.cons (.tup (.inl (.inl (a2 _ _ e2))) .nil) .nil)) <|
        .cons (.lst (a4 _ _ e4) (fun z => z b4) .nil) <| .cons (.lst (a5 _ _ e5) (fun z => z b5) (.cons (.int 0) .nil)) <| .cons (.dct (a6 _ _ e6) rfl) <| .cons (.dct (a7 _ _ e7) rfl) <| .cons (.tup (.inl (.inl (a8 _ _ e8))) (.cons (.int 1) (.cons (.int 0) .nil))) <|
        .cons (.tup (.inl (.inl (a11 _ _ e11))) (.cons (.tup (.inl (.inl (a10 _ _ e10))) (.cons (.int 1) (.cons (.int 0) .nil))) .nil)) <| .cons (.str _) <| .cons (.tup (.inl (.inl (a14 _ _ e14))) (.cons (.int 5) (.cons (.int 1) (.cons (.tup (.inl (.inl (a12 _ _ e12))) .nil) (.cons (.tup (.inl (.inl (a13 _ _ e13))) .nil) .nil))))) .nil
    obtain ⟨v, hv⟩ : ∃ v, ([.non, .bl true, .bl false, .int (-1), .int 0, .int 1, .int 5, .int (10 ^ 29), .str "", .str "a", .str "5", .ref t0, .ref t1, .ref t3, .ref t4, .ref t5, .ref t6, .ref t7, .ref t8, .ref t11, .str "open", .ref t14] : List V)[r.toNat]? = some v := by
      refine ⟨_, List.getElem?_eq_getElem ?_⟩
      show r.toNat < 22
      omega
    obtain ⟨e, _, m, rp⟩ := repAll_get all hv
    exact ⟨L, _, r, v, rfl, rfl, .inl (.inl eL'), at_of (j := r.toNat) (by omega) hv, q H' v e (fun b o h n1 n2 => k' b o (aH b o h) n1 n2) D' rp m⟩
def signs70 : List Str := [" ", "0", "-", "+", "1", "\n", "\t", ",", "a", "9", ".", "_"]
def sp_bent70 : Sp := fun vs H Q _ => ∃ (d c : Addr) (t : Int) (x : Str), vs = [.ref d, .str x] ∧ Deck H d c t ∧ t ≤ 900000 ∧ Tx 100 x ∧ ∀ H' y t', Kept d c H H' → Deck H' d c t' → t' ≤ t + 3 → Tx 300 y → Q (.str y) H'
theorem ok__law_bent_text (T : Top K mg) : Ok P w K mg base 2 "_law_bent_text" ["_law_deck_here", "_law_text"] sp_bent70 := by
  have O__law_draw := ok__law_draw (P := P) (w := w) (base := base) T
  refine T.d__law_bent_text.ok sc__law_bent_text (fun vs H Q E h => ?_) (fun f cdv A outer s H vs Q E hr h => ?_)
  · obtain ⟨d, c, t, x, rfl, _⟩ := h
    rfl
  · obtain ⟨d, c, t, x, rfl, D0, ht, tx, q⟩ := h
    have lx := tx.len
    refine ⟨_, ((pss_cons (ps_set (i := 2) sc__law_bent_text.nd rfl (.inl rfl) (pe_callO O__law_draw (hr.mono (by omega)) (by rfl) (pa_cons (pv 0) (pa_cons (pe_op op_add (pe_callB call_len_str (by rfl) T.b_len (by decide +kernel) (pa_cons (pv 1) pa_nil)) pe_int) pa_nil))))
      (pss_cons (ps_set (i := 3) sc__law_bent_text.nd rfl (.inl rfl) (pe_ix ix_list (pe_lst (pa_cons pe_str (pa_cons pe_str (pa_cons pe_str (pa_cons pe_str (pa_cons pe_str (pa_cons pe_str (pa_cons pe_str (pa_cons pe_str (pa_cons pe_str (pa_cons pe_str (pa_cons pe_str (pa_cons pe_str pa_nil))))))))))))) (pe_callO O__law_draw (hr.mono (by omega)) (by rfl) (pa_cons (pv 0) (pa_cons pe_int pa_nil))) (fun _ _ => rfl)))
      (pss_cons (ps_par (i := 4) (j := 5) (by rfl) sc__law_bent_text.nd rfl rfl (by decide) rfl rfl (pa_cons (pe_slice sl_str (pv 1) po_none (po_some (pv 2))) (pa_cons (pe_slice sl_str (pv 1) (po_some (pe_op op_add (pv 2) pe_int)) po_none) pa_nil)) (by rfl))
      (pss_one (ps_ret (pe_ix ix_list (pe_lst (pa_cons (pe_op op_add_str (pe_op op_add_str (pv 4) (pv 3)) (pe_slice sl_str (pv 1) (po_some (pv 2)) po_none)) (pa_cons (pe_op op_add_str (pv 4) (pv 5)) (pa_cons (pe_op op_add_str (pe_op op_add_str (pv 4) (pv 3)) (pv 5)) pa_nil)))) (pe_callO O__law_draw (hr.mono (by omega)) (by rfl) (pa_cons (pv 0) (pa_cons pe_int pa_nil))) (fun _ _ => rfl)))))))), ?_⟩
    have zz : ∀ n : Nat, n ≤ 1000 → n ≤ sizeLine := fun n h => Nat.le_trans h (by decide)
    refine ⟨.ref d, rfl, .str x, rfl, x, rfl, zz _ (by omega), _, 1, rfl, rfl, d, c, t, _, rfl, D0, by omega, by omega, by omega, fun H1 k k1 D1 k0 kx => ?_⟩
    refine ⟨zz 12 (by decide), fun o no => ?_⟩
    generalize h2 : upd H1 o _ = H2
    obtain ⟨s2, e2⟩ := new_of h2 no
    have bo := D1.fresh no
    refine ⟨.ref d, rfl, d, c, t + 1, 12, rfl, D1.same s2, by omega, by decide, by decide, fun H3 j k3 D3 j0 j1 => ?_⟩
    have e3 := k3 _ _ e2 (fun z => bo (.inl z)) (fun z => bo (.inr z))
    obtain ⟨sg, hsg, lsg⟩ : ∃ sg : Str, (signs70.map V.str)[j.toNat]? = some (V.str sg) ∧ Tx 1 sg := by
      have hj : j.toNat < signs70.length := by show j.toNat < 12; omega
      refine ⟨signs70[j.toNat], by rw [List.getElem?_map, List.getElem?_eq_getElem hj]; rfl, ?_⟩
      have : ∀ z ∈ signs70, z.length ≤ 1 ∧ ∀ c ∈ z.cps.toList, c < 200 := by decide
      obtain ⟨a, b⟩ := this _ (List.getElem_mem hj)
      exact ⟨a, b⟩
    refine ⟨o, signs70.map V.str, j, .str sg, rfl, rfl, .inl (.inl e3), at_of (j := j.toNat) (by omega) hsg, ?_⟩
    refine ⟨.str x, rfl, .int k, rfl, k, rfl, x, rfl, zz _ (by omega), ?_⟩
    refine ⟨.str x, rfl, .int k, rfl, k, 1, rfl, rfl, k + 1, rfl, x, rfl, zz _ (by omega), _, _, rfl, ?_⟩
    have lsg' := lsg.len
    have l1 := cutS_length x none (some k)
    have l2 := cutS_length x (some (k + 1)) none
    have l3 := cutS_length x (some k) none
    have la : ∀ a b : Str, (a ++ b).length = a.length + b.length := fun a b => Str.length_append a b
    refine ⟨.str (cutS x none (some k)), rfl, .str sg, rfl, _, _, rfl, rfl, zz _ (by omega), .str x, rfl, .int k, rfl, k, rfl, x, rfl, zz _ (by omega), _, _, rfl, rfl, zz _ (by rw [la]; omega), ?_⟩
    refine ⟨.str (cutS x none (some k)), rfl, .str (cutS x (some (k + 1)) none), rfl, _, _, rfl, rfl, zz _ (by omega), ?_⟩
    refine ⟨.str (cutS x none (some k)), rfl, .str sg, rfl, _, _, rfl, rfl, zz _ (by omega), .str (cutS x (some (k + 1)) none), rfl, _, _, rfl, rfl, zz _ (by rw [la]; omega), ?_⟩
    refine ⟨zz 3 (by decide), fun o4 no4 => ?_⟩
    generalize h4 : upd H3 o4 _ = H4
    obtain ⟨s4, e4⟩ := new_of h4 no4
    have D4 := D3.same s4
    have b4 := D3.fresh no4
    refine ⟨.ref d, rfl, d, c, _, 3, rfl, D4, by omega, by decide, by decide, fun H5 i k5 D5 i0 i1 => ?_⟩
    have e5 := k5 _ _ e4 (fun z => b4 (.inl z)) (fun z => b4 (.inr z))
    obtain ⟨y, hy, ly⟩ : ∃ y : Str, ([.str (cutS x none (some k) ++ sg ++ cutS x (some k) none), .str (cutS x none (some k) ++ cutS x (some (k + 1)) none), .str (cutS x none (some k) ++ sg ++ cutS x (some (k + 1)) none)] : List V)[i.toNat]? = some (V.str y) ∧ Tx 300 y := by
      rcases (show i.toNat = 0 ∨ i.toNat = 1 ∨ i.toNat = 2 by omega) with h | h | h <;> rw [h]
      · exact ⟨_, rfl, (((tx.cut _ _).app lsg).app (tx.cut _ _)).mono (by decide)⟩
      · exact ⟨_, rfl, ((tx.cut _ _).app (tx.cut _ _)).mono (by decide)⟩
      · exact ⟨_, rfl, (((tx.cut _ _).app lsg).app (tx.cut _ _)).mono (by decide)⟩
    exact ⟨o4, _, i, .str y, rfl, rfl, .inl (.inl e5), at_of (j := i.toNat) (by omega) hy, q H5 y _ (k1.trans ((Kept.of s2).trans (k3.trans ((Kept.of s4).trans k5)))) D5 (by omega) ly⟩
theorem pss_imp70 {X : Cx} {b : List Stmt} {t t' : TS} (h : PSs X b t) (i : ∀ D σ H, σ.length = X.N.length → t' D σ H → t D σ H) : PSs X b t' := ⟨fun pins s σ H D I q => h.run pins s σ H D I (i D σ H I.len q)⟩
def sp_read70 (K : PySem.W.Frag) : Sp := fun vs H Q _ => ∃ (v : V) (d : PyData) (bad : Addr → Prop) (p : Int) (n : Nat), vs = [.int p, .int (n : Int), v] ∧ Rep K H bad v d ∧ (∀ z, d = .str z → z.length ≤ 900 ∧ (Txt.split z " ").length ≤ 1000 ∧ ∀ y ∈ Txt.split z " ", y.length ≤ 1000000) ∧ 1 ≤ n ∧ n ≤ 100 ∧
  (∀ H' l ns, Same H H' → readR p n d = some ns → H' l = some (.tup (ns.map V.int)) → Q (.ref l) H') ∧ (∀ H', Same H H' → readR p n d = none → Q (.bl true) H')
theorem ok__law_read (T : Top K mg) : Ok P w K mg base 6 "_law_read" ["_law_p", "_law_n", "_law_text"] (sp_read70 K) := by
  have OX := okx_read_row (P := P) (w := w) (base := base) T
  refine T.d__law_read.ok sc__law_read (fun vs H Q E h => ?_) (fun f cdv A outer s H vs Q E hr h => ?_)
  · obtain ⟨v, d, bad, p, n, rfl, _⟩ := h
    rfl
  · obtain ⟨v, d, bad, p, n, rfl, hv, hz, n1, n100, q1, q2⟩ := h
    refine ⟨_, pss_one (ps_try_as (X := (cxOf C8.CX0 P w K mg base N__law_read "_law_read" (defScope s__law_read) f cdv A outer s H E).nox) (c := .ref (adr mg "NoText")) (i := 3)
      (tb := fun W => tRet (tCallS (sp_read_row K mg) (WE W) (tCons (tVar 0) (tCons (tVar 1) (tCons (tVar 2) tNil)))))
      (ts := fun a cls d D σ H => (cls = .ref (adr mg "NoText") ∧ d = none) ∧ (σ.length = 4 → σ[3]? = some (some (.ref a))) ∧ D.rt (.bl true) H) rfl rfl sc__law_read.nd rfl rfl ⟨(by rfl), (by decide), .inl T.e_NoText.g⟩ L2.takes0
      (fun W pn xe tk _ => ?_) (fun a oe cls d pn hz hf => pss_pre fun hp => ?_)), ?_⟩
    · exact pss_one (ps_ret (pe_callX OX tk (hr.mono (by omega)) (by rfl) (pa_cons (pv 0) (pa_cons (pv 1) (pa_cons (pv 2) pa_nil)))))
    · obtain ⟨rfl, rfl⟩ := hp
      have iE := call_isE (X := (cxOf C8.CX0 P w K mg base N__law_read "_law_read" (defScope s__law_read) f cdv A outer s H E).nox) (a := a) (pn := pn) T.e_NoText.c hz hf
      refine pss_imp70 (pss_one (ps_ret (pe_and (pe_callB iE (by rfl) T.b_isinstance (by decide +kernel) (pa_cons (pv 3) (pa_cons (pe_glob (v := .ref _) (by rfl) T.e_CallError.g rfl) pa_nil)))
        (pe_and (pe_callB iE (by rfl) T.b_isinstance (by decide +kernel) (pa_cons (pv 3) (pa_cons (pe_bltn (v := .ty "ValueError") (u := .type "ValueError") (by rfl) T.b_ValueError (by decide +kernel) rfl) pa_nil)))
        (pe_one (pe_not (pe_callB iE (by rfl) T.b_isinstance (by decide +kernel) (pa_cons (pv 3) (pa_cons (pe_glob (v := .ref _) (by rfl) T.e_NoRow.g rfl) pa_nil))))))))) (fun D σ H l h => ?_)
      obtain ⟨h1, h2⟩ := h
      refine ⟨.ref a, h1 l, _, _, true, rfl, fun u r => r, kit_own (x := "NoText") T.e_CallError T.s_NoText_CallError (fun _ => rfl), true, rfl, iteT ?_⟩
      refine ⟨.ref a, h1 l, _, _, true, rfl, fun u r => r, kit_blt (by decide +kernel) T.s_NoText_ValueError, true, rfl, iteT ?_⟩
      exact ⟨.ref a, h1 l, _, _, false, rfl, fun u r => r, kit_own (x := "NoText") T.e_NoRow T.s_NoText_NoRow (fun z => absurd z (adr_ne T.s_NoText_NoRow T.s_NoRow_NoRow)), false, rfl, h2⟩
    · refine ⟨.int p, rfl, .int (n : Int), rfl, v, rfl, v, d, bad, p, n, rfl, hv, hz, n1, n100, q1, fun H' s' e => ?_⟩
      exact ⟨true, T.e_NoText.exm T.s_NoText_NoText, fun _ a _ => ⟨⟨rfl, rfl⟩, fun l => by rw [List.length_set] at l; exact List.getElem?_set_self (by omega), q2 H' s' e⟩, fun z => nomatch z⟩
def sp_row3 : Sp := fun vs H Q _ => ∃ (d c : Addr) (t p : Int) (n : Nat), vs = [.ref d, .int p, .int (n : Int)] ∧ Deck H d c t ∧ t ≤ 900000 ∧ 2 ≤ p ∧ p ≤ 1000 ∧ 1 ≤ n ∧ n ≤ 100 ∧ ∀ H' a r t', Kept d c H H' → Deck H' d c t' → t' ≤ t + 2 + 2 * n → H a = none → H' a = some (.tup (r.map V.int)) → RowsOk p n [r] → Q (.ref a) H'
theorem kept_none {d c l : Addr} {t : Int} {H H' : Hp} (D : Deck H' d c t) (k : Kept d c H H') (n : H' l = none) : H l = none := by
  cases hl : H l with
  | none => rfl
  | some o =>
    have bl := D.fresh n
    rw [k l o hl (fun z => bl (.inl z)) (fun z => bl (.inr z))] at n
    cases n
/-- a comprehension of drawn rests -/
theorem lc_drawn {d c : Addr} {t p : Int} {n : Nat} {σ : L2.St} {H : Hp} {Qd : Addr → Hp → Prop} {i : Nat} {sl : List Nat} {te : TE} (D0 : Deck H d c t) (hn : n ≤ 100) (hw : ∀ x : Option V, wipe ((wipe σ sl).set i x) sl = wipe σ sl)
    (hte : ∀ (k : Nat) (t' : Int) (H' : Hp) (Q' : VK), Deck H' d c t' → t' ≤ t + 2 * k → k < n → (∀ H'' t'' x, Kept d c H' H'' → Deck H'' d c t'' → t'' ≤ t' + 2 → 0 ≤ x → x < p → Q' (.int x) H'') → te ((wipe σ sl).set i (some (.int (0 + (k : Int))))) H' Q')
    (hd : ∀ (D : Addr) (H' : Hp) (t' : Int) (r : List Int), Kept d c H H' → Deck H' d c t' → t' ≤ t + 2 * n → H' D = some (.lst (r.map V.int)) → r.length = n → (∀ x ∈ r, 0 ≤ x ∧ x < p) → Qd D H') :
    LcGoal (Itr 0 n) (gName i) tYes te sl σ H Qd := by
  intro D nD
  have bD := D0.fresh nD
  refine lc_range (lo := 0) (n := n) (fun k H' => Kept d c H H' ∧ ∃ (t' : Int) (r : List Int), Deck H' d c t' ∧ t' ≤ t + 2 * k ∧ H' D = some (.lst (r.map V.int)) ∧ r.length = k ∧ ∀ x ∈ r, 0 ≤ x ∧ x < p) ⟨Kept.of (same_upd nD), t, [], D0.same (same_upd nD), by omega, upd_same, rfl, fun x hx => nomatch hx⟩ (fun k H' hk hW => ?_) (fun H' hW => ?_)
  · obtain ⟨k', t', r, D', ht', eB, ln, ro⟩ := hW
    refine ⟨hw _, hte k t' H' _ D' ht' hk fun H1 t1 x k1 D1 ht1 x0 x1 => ?_⟩
    refine ⟨r.map V.int, k1 _ _ eB (fun z => bD (.inl z)) (fun z => bD (.inr z)), by rw [List.length_map]; exact small1000 (by omega), (k'.trans k1).mut nD, t1, r ++ [x], D1.mut bD, by omega, ?_, by rw [List.length_append, ln]; rfl, fun y hy => ?_⟩
    · rw [upd_same, List.map_append]
      rfl
    · rcases List.mem_append.mp hy with h | h
      · exact ro y h
      · have : y = x := by simpa using h
        rw [this]
        exact ⟨x0, x1⟩
  · obtain ⟨k', t', r, D', ht', eB, ln, ro⟩ := hW
    exact hd D H' t' r k' D' ht' eB ln ro
theorem ok__law_row (T : Top K mg) : Ok P w K mg base 2 "_law_row" ["_law_deck_here", "_law_p", "_law_n"] sp_row3 := by
  have O__law_draw := ok__law_draw (P := P) (w := w) (base := base) T
  refine T.d__law_row.ok sc__law_row (fun vs H Q E h => ?_) (fun f cdv A outer s H vs Q E hr h => ?_)
  · obtain ⟨d, c, t, p, n, rfl, _⟩ := h
    rfl
  · obtain ⟨d, c, t, p, n, rfl, D0, ht, hp1, hp2, n1, hn, q⟩ := h
    refine ⟨_, ((pss_cons (ps_set (i := 3) sc__law_row.nd rfl (.inl rfl) (pe_callO O__law_draw (hr.mono (by omega)) (by rfl) (pa_cons (pv 0) (pa_cons pe_int pa_nil))))
      (pss_cons (ps_set (i := 4) sc__law_row.nd rfl (.inr rfl) (pe_callO O__law_draw (hr.mono (by omega)) (by rfl) (pa_cons (pv 0) (pa_cons (pv 2) pa_nil))))
      (pss_cons (ps_if (pt_cmpR op_eq (pv 3) pe_int (nomark _))
        (pss_one (ps_ret (pe_callTy call_tuple_of (by rfl) T.b_tuple (by decide +kernel) (pa_cons (pe_lc (own := [("_law_k", 5)]) (g := gName 5) (by rfl) sc__law_row.nd (pi_range1 (by rfl) T.b_range (pa_cons (pv 2) pa_nil)) (blkOk_by (own := [("_law_k", 5)]) (N := N__law_row) (sc := defScope s__law_row) (by decide +kernel)) (fun _ _ _ _ _ => (pg_name (i := 5) sc__law_row.nd rfl (.inl rfl))) (fun _ _ _ _ _ => pts_nil) (fun _ _ _ _ _ => (pe_callTy call_int1 (by rfl) T.b_int (by decide +kernel) (pa_cons (pe_cmpR op_eq (pv 5) (pv 4) (nomark _)) pa_nil)))) pa_nil))))
        pss_nil)
      (pss_cons (ps_if (pt_cmpR op_eq (pv 3) pe_int (nomark _))
        (pss_one (ps_ret (pe_callTy call_tuple_of (by rfl) T.b_tuple (by decide +kernel) (pa_cons (pe_lc (own := [("_law_k", 5)]) (g := gName 5) (by rfl) sc__law_row.nd (pi_range1 (by rfl) T.b_range (pa_cons (pv 2) pa_nil)) (blkOk_by (own := [("_law_k", 5)]) (N := N__law_row) (sc := defScope s__law_row) (by decide +kernel)) (fun _ _ _ _ _ => (pg_name (i := 5) sc__law_row.nd rfl (.inl rfl))) (fun _ _ _ _ _ => pts_nil) (fun _ _ _ _ _ => (pe_callO O__law_draw (hr.mono (by omega)) (by rfl) (pa_cons (pv 0) (pa_cons pe_int pa_nil))))) pa_nil))))
        pss_nil)
      (pss_cons (ps_if (pt_cmpR op_eq (pv 3) pe_int (nomark _))
        (pss_one (ps_ret (pe_callTy call_tuple_of (by rfl) T.b_tuple (by decide +kernel) (pa_cons (pe_lc (own := [("_law_k", 5)]) (g := gName 5) (by rfl) sc__law_row.nd (pi_range1 (by rfl) T.b_range (pa_cons (pv 2) pa_nil)) (blkOk_by (own := [("_law_k", 5)]) (N := N__law_row) (sc := defScope s__law_row) (by decide +kernel)) (fun _ _ _ _ _ => (pg_name (i := 5) sc__law_row.nd rfl (.inl rfl))) (fun _ _ _ _ _ => pts_nil) (fun _ _ _ _ _ => (pe_op op_mul (pe_callO O__law_draw (hr.mono (by omega)) (by rfl) (pa_cons (pv 0) (pa_cons (pv 1) pa_nil))) (pe_callO O__law_draw (hr.mono (by omega)) (by rfl) (pa_cons (pv 0) (pa_cons pe_int pa_nil)))))) pa_nil))))
        pss_nil)
      (pss_one (ps_ret (pe_callTy call_tuple_of (by rfl) T.b_tuple (by decide +kernel) (pa_cons (pe_lc (own := [("_law_k", 5)]) (g := gName 5) (by rfl) sc__law_row.nd (pi_range1 (by rfl) T.b_range (pa_cons (pv 2) pa_nil)) (blkOk_by (own := [("_law_k", 5)]) (N := N__law_row) (sc := defScope s__law_row) (by decide +kernel)) (fun _ _ _ _ _ => (pg_name (i := 5) sc__law_row.nd rfl (.inl rfl))) (fun _ _ _ _ _ => pts_nil) (fun _ _ _ _ _ => (pe_callO O__law_draw (hr.mono (by omega)) (by rfl) (pa_cons (pv 0) (pa_cons (pv 1) pa_nil))))) pa_nil)))))))))), ?_⟩
    refine ⟨.ref d, rfl, d, c, t, 4, rfl, D0, by omega, by decide, by decide, fun H1 z1 k1 D1 a0 a1 => ?_⟩
    refine ⟨.ref d, rfl, .int n, rfl, d, c, _, n, rfl, D1, by omega, by omega, by omega, fun H2 z2 k2 D2 b0 b1 => ?_⟩
    have k02 := k1.trans k2
    have last : ∀ (D : Addr) (H' : Hp) (t' : Int) (r : List Int), Kept d c H2 H' → Deck H' d c t' → t' ≤ t + 1 + 1 + 2 * n → H' D = some (.lst (r.map V.int)) → r.length = n → (∀ x ∈ r, 0 ≤ x ∧ x < p) → ∀ l, H' l = none → Q (.ref l) (upd H' l (.tup (r.map V.int))) := by
      intro D H' t' r k' D' ht' eB ln ro l nl
      have s2 := same_upd (o := .tup (r.map V.int)) nl
      exact q _ l r t' (k02.trans (k'.trans (Kept.of s2))) (D'.same s2) (by omega) (kept_none D' (k02.trans k') nl) upd_same (rowsOk_one ⟨ln, ro⟩)
    refine ⟨.int z1, rfl, rfl, _, rfl, ite2 (fun _ => ?_) (fun _ => ?_)⟩
    · refine ⟨.int n, rfl, n, rfl, by omega, by omega, lc_drawn (p := p) (t := t + 1 + 1) D2 hn (fun _ => rfl) (fun k t' H' Q' D' ht' hk hQ => ?_) (fun D H' t' r k' D' ht' eB ln ro => ⟨D, _, rfl, .inl ⟨.inl (.inl eB), last D H' t' r k' D' ht' eB ln ro⟩⟩)⟩
      refine ⟨.int (0 + k), rfl, .int z2, rfl, rfl, .inr ⟨_, rfl, ?_⟩⟩
      by_cases e : V.int (0 + (k : Int)) = V.int z2
      · rw [decide_eq_true e]
        exact hQ H' t' 1 (Kept.refl _ _ _) D' (by omega) (by omega) (by omega)
      · rw [decide_eq_false e]
        exact hQ H' t' 0 (Kept.refl _ _ _) D' (by omega) (by omega) (by omega)
    refine ⟨.int z1, rfl, rfl, _, rfl, ite2 (fun _ => ?_) (fun _ => ?_)⟩
    · refine ⟨.int n, rfl, n, rfl, by omega, by omega, lc_drawn (p := p) (t := t + 1 + 1) D2 hn (fun _ => rfl) (fun k t' H' Q' D' ht' hk hQ => ?_) (fun D H' t' r k' D' ht' eB ln ro => ⟨D, _, rfl, .inl ⟨.inl (.inl eB), last D H' t' r k' D' ht' eB ln ro⟩⟩)⟩
      exact ⟨.ref d, rfl, d, c, t', 2, rfl, D', by omega, by decide, by decide, fun H3 x k3 D3 x0 x1 => hQ H3 _ x k3 D3 (by omega) x0 (by omega)⟩
    refine ⟨.int z1, rfl, rfl, _, rfl, ite2 (fun _ => ?_) (fun _ => ?_)⟩
    · refine ⟨.int n, rfl, n, rfl, by omega, by omega, lc_drawn (p := p) (t := t + 1 + 1) D2 hn (fun _ => rfl) (fun k t' H' Q' D' ht' hk hQ => ?_) (fun D H' t' r k' D' ht' eB ln ro => ⟨D, _, rfl, .inl ⟨.inl (.inl eB), last D H' t' r k' D' ht' eB ln ro⟩⟩)⟩
      refine ⟨.ref d, rfl, .int p, rfl, d, c, t', p, rfl, D', by omega, by omega, by omega, fun H3 x k3 D3 x0 x1 => ?_⟩
      refine ⟨.ref d, rfl, d, c, _, 2, rfl, D3, by omega, by decide, by decide, fun H4 y k4 D4 y0 y1 => ?_⟩
      refine ⟨x, y, rfl, rfl, .inl ⟨by omega, by omega⟩, hQ H4 _ (x * y) (k3.trans k4) D4 (by omega) (Int.mul_nonneg x0 y0) ?_⟩
      have : y = 0 ∨ y = 1 := by omega
      rcases this with rfl | rfl
      · omega
      · omega
    · refine ⟨.int n, rfl, n, rfl, by omega, by omega, lc_drawn (p := p) (t := t + 1 + 1) D2 hn (fun _ => rfl) (fun k t' H' Q' D' ht' hk hQ => ?_) (fun D H' t' r k' D' ht' eB ln ro => ⟨D, _, rfl, .inl ⟨.inl (.inl eB), last D H' t' r k' D' ht' eB ln ro⟩⟩)⟩
      exact ⟨.ref d, rfl, .int p, rfl, d, c, t', p, rfl, D', by omega, by omega, by omega, fun H3 x k3 D3 x0 x1 => hQ H3 _ x k3 D3 (by omega) x0 x1⟩
end
end OC
set_option Elab.async false
set_option linter.all false
set_option maxRecDepth 100000
set_option maxHeartbeats 4000000
namespace OC
open PySem PySem.Spec PyProof.Rows L2
section
variable {P : Program} {w : World} {K : PySem.W.Frag} {mg : Str → Option Value} {base : Heap}
theorem flat_const (v : Int) (k : Nat) : (List.replicate k [V.int v]).flatten = (List.replicate k v).map V.int := by
  induction k with
  | zero => rfl
  | succ k ih => rw [List.replicate_succ, List.flatten_cons, ih, List.replicate_succ, List.map_cons]; rfl
theorem rows_const {p v : Int} {n : Nat} (h0 : 0 ≤ v) (h1 : v < p) : RowsOk p n [List.replicate n v] := rowsOk_one ⟨List.length_replicate, fun x hx => by rw [(List.mem_replicate.mp hx).2]; exact ⟨h0, h1⟩⟩
theorem rows_mod {p : Int} {n : Nat} (h : 0 < p) : RowsOk p n [(List.range n).map fun (j : Nat) => (j : Int) % p] := rowsOk_one ⟨by rw [List.length_map, List.length_range], fun x hx => by
  obtain ⟨j, _, rfl⟩ := List.mem_map.mp hx
  exact ⟨Int.emod_nonneg _ (by omega), Int.emod_lt_of_pos _ h⟩⟩
theorem cut70 {v : V} {xs : List V} : cutV (v :: xs) (some 1) none = xs := by
  unfold cutV
  simp [HT.sIx]
theorem fitz_row1 {p : Int} {n : Nat} (hp : p ≤ 1000) (hn : n ≤ 8) : ∀ r : List Int, RowsOk p n [r] → FitZ 419 1 (rowD r) := fun r ok => by
    have okr := ok r List.mem_cons_self
    have := fitz_tuple (B := 50) (k := 0) (n := 8) (ds := r.map PyData.int) (by rw [List.length_map, okr.1]; exact hn) fun d hd => by
      obtain ⟨x, mx, rfl⟩ := List.mem_map.mp hd
      have := okr.2 x mx
      exact fitz_int (by omega) (by omega)
    exact this.mono (by decide) (by decide)
def strB : PyData → Bool
  | .str z => decide (z.length ≤ 300) && z.cps.toList.all (fun c => decide (c < 200))
  | _ => true
theorem odd_ok {e : PyData} (h : e ∈ odd70) : Ok70 e := by
  have a : (odd70.all fun e => decide (e.shown.length ≤ 10000000) && e.showable && decide (e.depth ≤ 55) && strB e) = true := by decide +kernel
  have b := List.all_eq_true.mp a e h
  simp only [Bool.and_eq_true, decide_eq_true_eq] at b
  obtain ⟨⟨⟨a1, a2⟩, a3⟩, a4⟩ := b
  refine ⟨⟨a1, a2, a3⟩, fun z ez => ?_⟩
  subst ez
  unfold strB at a4
  simp only [Bool.and_eq_true, decide_eq_true_eq] at a4
  exact ⟨a4.1, fun c hc => of_decide_eq_true (List.all_eq_true.mp a4.2 c hc)⟩
def sp_law (K : PySem.W.Frag) : Sp := fun vs H Q _ => ∃ (a : Addr) (ns : List Int), vs = [.ref a] ∧ SqL K H a (ns.map V.int) ∧ ns.length ≤ 63 ∧ ∀ H', Q (.bl true) H'
theorem ok_law (T : Top K mg) (hsys : HasSys base) {f : Addr} {fd : FuncData} (F : Fun K "law" "law" s_law f fd) : FnG P w K mg base CX0 10 f fd ["_law_script"] (sp_law K) := by
  have O__law_deck := ok__law_deck (P := P) (w := w) (base := base) T
  have O__law_draw := ok__law_draw (P := P) (w := w) (base := base) T
  have O__law_row := ok__law_row (P := P) (w := w) (base := base) T
  have O_row_text := ok_row_text (P := P) (w := w) (base := base) T
  have O__law_row_text := ok__law_row_text (P := P) (w := w) (base := base) T
  have O__law_same := ok_same70 (P := P) (w := w) (base := base) T
  have OX_read_row := okx_read_row (P := P) (w := w) (base := base) T
  have O__law_bent_text := ok__law_bent_text (P := P) (w := w) (base := base) T
  have O__law_odd := ok__law_odd (P := P) (w := w) (base := base) T
  have O__law_read := ok__law_read (P := P) (w := w) (base := base) T
  have O__law_due := ok__law_due (P := P) (w := w) (base := base) T
  have O__law_is_row := ok__law_is_row (P := P) (w := w) (base := base) T
  refine funG F sc_law (fun vs H Q E h => ?_) (fun cdv A outer s H vs Q E hr hgd h => ?_)
  · obtain ⟨a, ns, rfl, _⟩ := h
    rfl
  · obtain ⟨a, ns, rfl, hS, hl, qq⟩ := h
    refine ⟨_, ((pss_cons (ps_set (i := 1) sc_law.nd rfl (.inr rfl) (pe_callO O__law_deck (hr.mono (by omega)) (by rfl) (pa_cons (pv 0) pa_nil)))
      (pss_cons (ps_set (i := 2) sc_law.nd rfl (.inr rfl) (pe_ix ix_list (pe_lst (pa_cons pe_int (pa_cons pe_int (pa_cons pe_int (pa_cons pe_int (pa_cons pe_int (pa_cons pe_int pa_nil))))))) (pe_callO O__law_draw (hr.mono (by omega)) (by rfl) (pa_cons (pv 1) (pa_cons pe_int pa_nil))) (fun _ _ => rfl)))
      (pss_cons (ps_set (i := 3) sc_law.nd rfl (.inl rfl) (pe_op op_add pe_int (pe_callO O__law_draw (hr.mono (by omega)) (by rfl) (pa_cons (pv 1) (pa_cons pe_int pa_nil)))))
      (pss_cons (ps_set (i := 4) sc_law.nd rfl (.inl rfl) (pe_callO O__law_row (hr.mono (by omega)) (by rfl) (pa_cons (pv 1) (pa_cons (pv 2) (pa_cons (pv 3) pa_nil)))))
      (pss_cons (ps_set (i := 6) sc_law.nd rfl (.inl rfl) (pe_lst (pa_cons (pv 4) (pa_cons (pe_op op_repB (pe_tup (pa_cons pe_int pa_nil)) (pv 3)) (pa_cons (pe_op op_repB (pe_tup (pa_cons (pe_op op_sub (pv 2) pe_int) pa_nil)) (pv 3)) (pa_cons (pe_callTy call_tuple_of (by rfl) T.b_tuple (by decide +kernel) (pa_cons (pe_lc (own := [("_law_k", 5)]) (g := gName 5) (by rfl) sc_law.nd (pi_range1 (by rfl) T.b_range (pa_cons (pv 3) pa_nil)) (blkOk_by (own := [("_law_k", 5)]) (N := N_law) (sc := defScope s_law) (by decide +kernel)) (fun _ _ _ _ _ => (pg_name (i := 5) sc_law.nd rfl (.inl rfl))) (fun _ _ _ _ _ => pts_nil) (fun _ _ _ _ _ => (pe_op op_mod (pv 5) (pv 2)))) pa_nil)) pa_nil))))))
      (pss_cons (ps_for PassesOwn.never (by rfl) (pi_list (pv 6)) (pg_name (i := 7) sc_law.nd rfl (.inl rfl))
        (pss_cons (ps_set (i := 8) sc_law.nd rfl (.inr rfl) (pe_callO O_row_text (hr.mono (by omega)) (by rfl) (pa_cons (pv 7) pa_nil)))
        (pss_one (ps_if (PW.pt (pw_or (pt_not (pt_val (pe_callB call_isi (by rfl) T.b_isinstance (by decide +kernel) (pa_cons (pv 8) (pa_cons (pe_bltn (v := .ty "str") (u := .type "str") (by rfl) T.b_str (by decide +kernel) rfl) pa_nil))))) (pw_or (pt_cmpR op_ne (pv 8) (pe_callO O__law_row_text (hr.mono (by omega)) (by rfl) (pa_cons (pv 7) pa_nil)) (nomark _)) (pw_or1 (pt_not (pt_val (pe_callO O__law_same (hr.mono (by omega)) (by rfl) (pa_cons (pe_callX0 OX_read_row (hr.mono (by omega)) (by rfl) (pa_cons (pv 2) (pa_cons (pv 3) (pa_cons (pv 8) pa_nil)))) (pa_cons (pv 7) pa_nil)))))))))
          (pss_one (ps_ret pe_bl))
          pss_nil))))
      (pss_cons (ps_set (i := 8) sc_law.nd rfl (.inr rfl) (pe_callO O__law_row_text (hr.mono (by omega)) (by rfl) (pa_cons (pv 4) pa_nil)))
      (pss_cons (ps_set (i := 9) sc_law.nd rfl (.inl rfl) (pe_lst (pa_opT op_add_str (pv 8) (pat_of (pe_op op_add_str pe_str (pv 8)) (pat_cons (CwR.pet_replC (pv 8)) (pat_of (pe_op op_add_str (pv 8) pe_str) (pat_of (pe_callTy call_str_int (by rfl) T.b_str (by decide +kernel) (pa_cons (pv 2) pa_nil)) (pat_of (pe_op op_add_str pe_str (pv 8)) (pat_of pe_str (pat_of pe_str (pat_of (pe_op op_add_str (pv 8) pe_str) pat_nil)))))))))))
      (pss_cons (ps_set (i := 9) sc_law.nd rfl (.inl rfl) (pe_op op_cat (pe_op op_cat (pv 9) (pe_lc (own := [("_law_k", 5)]) (g := gName 5) (by rfl) sc_law.nd (pi_range1 (by rfl) T.b_range (pa_cons pe_int pa_nil)) (blkOk_by (own := [("_law_k", 5)]) (N := N_law) (sc := defScope s_law) (by decide +kernel)) (fun _ _ _ _ _ => (pg_name (i := 5) sc_law.nd rfl (.inl rfl))) (fun _ _ _ _ _ => pts_nil) (fun _ _ _ _ _ => (pe_callO O__law_bent_text (hr.mono (by omega)) (by rfl) (pa_cons (pv 1) (pa_cons (pv 8) pa_nil)))))) (pe_lst (pa_cons (pv 4) (pa_cons pe_non (pa_cons pe_int (pa_cons (pe_lst (pa_cons (pv 8) pa_nil)) (pa_cons (pe_callO O__law_odd (hr.mono (by omega)) (by rfl) (pa_cons (pv 1) pa_nil)) pa_nil))))))))
      (pss_cons (ps_set (i := 9) sc_law.nd rfl (.inl rfl) (pe_op op_cat (pv 9) (pe_lst (pa_cons (pe_callO O__law_row_text (hr.mono (by omega)) (by rfl) (pa_cons (pe_op op_catB (pe_tup (pa_cons (pv 2) pa_nil)) (pe_slice sl_tupB (pv 4) (po_some pe_int) po_none)) pa_nil)) (pa_cons (pe_callO O__law_row_text (hr.mono (by omega)) (by rfl) (pa_cons (pe_slice sl_tupB (pv 4) (po_some pe_int) po_none) pa_nil)) (pa_cons (pe_callO O__law_row_text (hr.mono (by omega)) (by rfl) (pa_cons (pe_op op_catB (pv 4) (pe_tup (pa_cons pe_int pa_nil))) pa_nil)) (pa_cons (pe_op op_add_str pe_str (pv 8)) pa_nil)))))))
      (pss_cons (ps_for PassesOwn.never (by rfl) (pi_list (pv 9)) (pg_name (i := 10) sc_law.nd rfl (.inl rfl))
        (pss_cons (ps_set (i := 11) sc_law.nd rfl (.inl rfl) (pe_callB (call_reprS NB hsys hr hgd) (by rfl) T.b_repr (by decide +kernel) (pa_cons (pv 10) pa_nil)))
        (pss_one (ps_if (PW.pt (pw_or (pt_not (pt_val (pe_callO O__law_same (hr.mono (by omega)) (by rfl) (pa_cons (pe_callO O__law_read (hr.mono (by omega)) (by rfl) (pa_cons (pv 2) (pa_cons (pv 3) (pa_cons (pv 10) pa_nil)))) (pa_cons (pe_callO O__law_due (hr.mono (by omega)) (by rfl) (pa_cons (pv 2) (pa_cons (pv 3) (pa_cons (pv 10) pa_nil)))) pa_nil))))) (pw_or1 (pt_cmpR op_ne (pe_callB (call_reprS NB hsys hr hgd) (by rfl) T.b_repr (by decide +kernel) (pa_cons (pv 10) pa_nil)) (pv 11) (nomark _)))))
          (pss_one (ps_ret pe_bl))
          pss_nil))))
      (pss_one (ps_ret (pe_callO O__law_is_row (hr.mono (by omega)) (by rfl) (pa_cons (pv 2) (pa_cons (pv 3) (pa_cons (pv 4) pa_nil)))))))))))))))))), ?_⟩
    refine ⟨.ref a, rfl, a, ns, rfl, hS, hl, fun H1 d c s1 D1 _ _ => ?_⟩
    refine ⟨sz1000 (by decide : (6 : Nat) ≤ 1000), fun o no => ?_⟩
    generalize h0 : upd H1 o _ = H0
    obtain ⟨s0, e0⟩ := new_of h0 no
    have bo := D1.fresh no
    refine ⟨.ref d, rfl, d, c, 0, 6, rfl, D1.same s0, by decide, by decide, by decide, fun H2 z1 k2 D2 a0 a1 => ?_⟩
    obtain ⟨p, mp, _, hp⟩ := at_int (xs := [5, 7, 11, 13, 97, 101]) a0 a1
    have okp : 5 ≤ p ∧ p ≤ 101 := by
      simp only [List.mem_cons, List.not_mem_nil, or_false] at mp
      omega
    obtain ⟨p5, p101⟩ := okp
    refine ⟨o, _, z1, .int p, rfl, rfl, .inl (.inl (k2 _ _ e0 (fun z => bo (.inl z)) (fun z => bo (.inr z)))), hp, ?_⟩
    refine ⟨.ref d, rfl, d, c, _, 8, rfl, D2, by decide, by decide, by decide, fun H3 n' k3 D3 c0 c1 => ⟨1, n', rfl, rfl, ?_⟩⟩
    obtain ⟨n, hn⟩ : ∃ n : Nat, 1 + n' = (n : Int) := ⟨(1 + n').toNat, by omega⟩
    dsimp only
    rw [hn]
    have n1 : 1 ≤ n := by omega
    have n8 : n ≤ 8 := by omega
    refine ⟨.ref d, rfl, .int p, rfl, .int (n : Int), rfl, d, c, _, p, n, rfl, D3, by decide, by omega, by omega, n1, by omega, fun H4 za r ta k4 D4 hta na ea okr => ?_⟩
    have okr' := okr r List.mem_cons_self
    refine ⟨.ref za, rfl, sz1000 (by decide : (1 : Nat) ≤ 1000), fun o5 no5 => ?_⟩
    generalize h5 : upd H4 o5 _ = H5
    obtain ⟨s5, e5⟩ := new_of h5 no5
    refine ⟨.int (n : Int), rfl, o5, n, _, rfl, rfl, .inl (.inl e5), (by simp), by omega, by omega, by simp, fun zb H6 s6 hb => ?_⟩
    rw [Int.toNat_natCast, flat_const] at hb
    refine ⟨.int p, rfl, p, 1, rfl, rfl, sz1000 (by decide : (1 : Nat) ≤ 1000), fun o7 no7 => ?_⟩
    generalize h7 : upd H6 o7 _ = H7
    obtain ⟨s7, e7⟩ := new_of h7 no7
    refine ⟨.int (n : Int), rfl, o7, n, _, rfl, rfl, .inl (.inl e7), (by simp), by omega, by omega, by simp, fun zc H8 s8 hc => ?_⟩
    rw [Int.toNat_natCast, flat_const] at hc
    have s48 := s5.trans (s6.trans (s7.trans s8))
    refine ⟨.int (n : Int), rfl, n, rfl, by omega, by omega, fun D nD => lc_range (lo := 0) (n := n) (fun k H' => Same H8 H' ∧ H' D = some (.lst (((List.range k).map fun (j : Nat) => (j : Int) % p).map V.int))) ⟨same_upd nD, upd_same⟩ (fun k H' hk hP => ?_) (fun H9 hP => ?_)⟩
    · obtain ⟨s9, eD⟩ := hP
      exact ⟨rfl, .int (0 + (k : Int)), rfl, .int p, rfl, 0 + (k : Int), p, rfl, rfl, by omega, _, eD, small1000 (by rw [List.length_map, List.length_map, List.length_range]; omega), same_mut s9 nD, by rw [upd_same, List.range_succ, List.map_append, List.map_append, Int.zero_add]; rfl⟩
    obtain ⟨s9, eD⟩ := hP
    refine ⟨D, _, rfl, .inl ⟨.inl (.inl eD), fun zd nzd => ?_⟩⟩
    generalize h10 : upd H9 zd _ = H10
    obtain ⟨s10, e10⟩ := new_of h10 nzd
    refine ⟨sz1000 (by decide : (4 : Nat) ≤ 1000), fun L nL => ?_⟩
    generalize h11 : upd H10 L _ = H11
    obtain ⟨s11, eL⟩ := new_of h11 nL
    have s4b := s48.trans (s9.trans (s10.trans s11))
    have hza : SqT K H11 za (r.map V.int) := .inl (.inl (s4b _ _ ea))
    have rows4 : ∀ (i : Nat) (v : V), ([V.ref za, V.ref zb, V.ref zc, V.ref zd] : List V)[i]? = some v → ∃ (b : Addr) (g : List Int), v = .ref b ∧ SqT K H11 b (g.map V.int) ∧ RowsOk p n [g] := by
      intro i v hv
      have hb' : SqT K H11 zb ((List.replicate n (0 : Int)).map V.int) := Same.tup (s7.trans (s8.trans (s9.trans (s10.trans s11)))) hb
      have hc' : SqT K H11 zc ((List.replicate n (p - 1)).map V.int) := Same.tup (s9.trans (s10.trans s11)) hc
      have hd' : SqT K H11 zd (((List.range n).map fun (j : Nat) => (j : Int) % p).map V.int) := .inl (.inl (s11 _ _ e10))
      match i, hv with
      | 0, hv => cases hv; exact ⟨_, r, rfl, hza, okr⟩
      | 1, hv => cases hv; exact ⟨_, _, rfl, hb', rows_const (by omega) (by omega)⟩
      | 2, hv => cases hv; exact ⟨_, _, rfl, hc', rows_const (by omega) (by omega)⟩
      | 3, hv => cases hv; exact ⟨_, _, rfl, hd', rows_mod (by omega)⟩
      | k + 4, hv => simp at hv
    generalize ([V.ref za, V.ref zb, V.ref zc, V.ref zd] : List V) = xs4 at rows4 eL
    refine ⟨.ref L, rfl, L, rfl, ⟨_, .inl (.inl eL)⟩, for_it (walk_list (K := K) (a := L) (xs := xs4)) (fun i σ H' => Same H11 H' ∧ ∃ y7 y8 : Option V, σ = [some (.ref a), some (.ref d), some (.int p), some (.int (n : Int)), some (.ref za), none, some (.ref L), y7, y8, none, none, none]) ⟨Same.refl _, none, none, rfl⟩ (fun i σ H' _ hW => .inl (.inl (hW.1 _ _ eL))) (fun i v σ H' H'' hi hW hY => ?_) (fun σ H12 hW => ?_)⟩
    · obtain ⟨rfl, hv⟩ := hY
      obtain ⟨s12, y7, y8, rfl⟩ := hW
      obtain ⟨bb, g, rfl, hg, okg⟩ := rows4 i v hv
      have okg' := okg g List.mem_cons_self
      have bg : ∀ x ∈ g, 0 ≤ x ∧ x < 1000 := fun x hx => by have := okg'.2 x hx; omega
      have tg := rowT_tx bg (by omega)
      have hg12 := Same.tup s12 hg
      refine ⟨.ref bb, rfl, bb, g, rfl, hg12, by omega, bg, fun H13 s13 => ?_⟩
      refine ⟨.str (rowT g), rfl, .str (rowT g), .ty "str", _, _, _, rfl, .ty "str", kd_str _, kit_str _, true, rfl, iteF ?_⟩
      refine ⟨.str (rowT g), rfl, .ref bb, rfl, bb, g, rfl, Same.tup s13 hg12, by omega, bg, fun H14 s14 => ⟨rfl, _, rfl, ?_⟩⟩
      rw [show (!decide (V.str (rowT g) = V.str (rowT g))) = false by simp]
      refine iteF ?_
      have hg14 := Same.tup (s13.trans s14) hg12
      obtain ⟨sa, sb, sc⟩ := (tg.mono (show 70 ≤ 300 by decide)).split (by decide)
      have rd := read_rowT okg (by omega) n1
      refine ⟨.int p, rfl, .int (n : Int), rfl, .str (rowT g), rfl, .str (rowT g), .str (rowT g), (fun _ => False), p, n, rfl, .str _, (fun z ez => by cases ez; exact ⟨sa, sb, fun y hy => Nat.le_trans (sc y hy) (by decide)⟩), n1, by omega, fun H15 l ns' s15 er el => ?_, fun H15 s15 er => by rw [rd] at er; cases er⟩
      cases rd.symm.trans er
      refine ⟨.ref bb, rfl, .ref l, .ref bb, rowD g, rfl, row_dp (.inl (.inl el)), row_dp (Same.tup s15 hg14), .inr ⟨g.map PyData.int, rfl, by rw [List.length_map]; omega, fun x hx => by obtain ⟨y, _, rfl⟩ := List.mem_map.mp hx; exact .inl trivial⟩, fun H16 s16 => ⟨true, rfl, iteF ?_⟩⟩
      exact ⟨s12.trans (s13.trans (s14.trans (s15.trans s16))), _, _, rfl⟩
    obtain ⟨s12, y7, y8, rfl⟩ := hW
    have br : ∀ x ∈ r, 0 ≤ x ∧ x < 1000 := fun x hx => by have := okr'.2 x hx; omega
    have tr := rowT_tx br (by omega)
    have hza12 := Same.tup s12 hza
    refine ⟨.ref za, rfl, za, r, rfl, hza12, by omega, br, fun H13 s13 => ?_⟩
    have hza13 := Same.tup s13 hza12
    generalize hT : rowT r = tx at tr
    have lt := tr.len
    have zz : ∀ n : Nat, n ≤ 1000 → n ≤ sizeLine := fun n h => Nat.le_trans h (by decide)
    have l1 : (" " : Str).length = 1 := rfl
    have l2 : ("\n" : Str).length = 1 := rfl
    have l3 : ("0" : Str).length = 1 := rfl
    have l4 : (" 0" : Str).length = 2 := rfl
    have l5 : ("  " : Str).length = 2 := rfl
    refine ⟨.str tx, rfl, tx, " ", rfl, rfl, zz _ (by omega), .str tx, rfl, " ", tx, rfl, rfl, zz _ (by omega), .str tx, rfl, tx, rfl, by rw [l5]; omega, .str tx, rfl, tx, "\n", rfl, rfl, zz _ (by omega), .int p, rfl, p, rfl, Nat.lt_of_le_of_lt (Nat.log2_le_self _) (by omega), .str tx, rfl, "0", tx, rfl, rfl, zz _ (by omega), .str tx, rfl, tx, " 0", rfl, rfl, zz _ (by omega), zz 9 (by decide), fun L1 nL1 => ?_⟩
    generalize h14 : upd H13 L1 _ = H14
    obtain ⟨s14, eL1⟩ := new_of h14 nL1
    have one : ∀ (z : Str), z.length ≤ 9 → (∀ c ∈ z.cps.toList, c < 200) → Tx 9 z := fun z a b => ⟨a, b⟩
    obtain ⟨T9, eT, lT, okT⟩ : ∃ T9 : List Str, H14 L1 = some (.lst (T9.map V.str)) ∧ T9.length = 9 ∧ ∀ z ∈ T9, Tx 300 z := by
      refine ⟨[tx ++ " ", " " ++ tx, Txt.replace tx " " "  ", tx ++ "\n", txN p, "0" ++ tx, "", " ", tx ++ " 0"], eL1, rfl, fun z hz => ?_⟩
      simp only [List.mem_cons, List.not_mem_nil, or_false] at hz
      rcases hz with rfl | rfl | rfl | rfl | rfl | rfl | rfl | rfl | rfl
      · exact (tr.app (one " " (by decide) (by decide))).mono (by decide)
      · exact ((one " " (by decide) (by decide)).app tr).mono (by decide)
      · exact tr.repl.mono (by decide)
      · exact (tr.app (one "\n" (by decide) (by decide))).mono (by decide)
      · exact (txN_ok (by omega) (by omega)).mono (by decide)
      · exact ((one "0" (by decide) (by decide)).app tr).mono (by decide)
      · exact (one "" (by decide) (by decide)).mono (by decide)
      · exact (one " " (by decide) (by decide)).mono (by decide)
      · exact (tr.app (one " 0" (by decide) (by decide))).mono (by decide)
    have s4e : Same H4 H14 := s4b.trans (s12.trans (s13.trans s14))
    have D14 := D4.same s4e
    have bL1 := (D4.same (s4b.trans (s12.trans s13))).fresh nL1
    refine ⟨.ref L1, rfl, (12 : Int), rfl, by decide, by decide, fun DD nDD => lc_range (lo := 0) (n := 12) (fun k H' => Kept d c H14 H' ∧ ∃ (t' : Int) (ys : List Str), Deck H' d c t' ∧ t' ≤ ta + 3 * k ∧ H' DD = some (.lst (ys.map V.str)) ∧ ys.length = k ∧ ∀ y ∈ ys, Tx 300 y) ⟨Kept.of (same_upd nDD), ta, [], D14.same (same_upd nDD), by omega, upd_same, rfl, fun y hy => nomatch hy⟩ (fun k H' hk hP => ?_) (fun H15 hP => ?_)⟩
    · obtain ⟨ka, t', ys, D', ht', eD, ly, oky⟩ := hP
      have bDD := D14.fresh nDD
      refine ⟨rfl, .ref d, rfl, .str tx, rfl, d, c, t', tx, rfl, D', by omega, tr.mono (by decide), fun H'' y t'' kb D'' ht'' ty => ?_⟩
      have eD' := kb _ _ eD (fun z => bDD (.inl z)) (fun z => bDD (.inr z))
      refine ⟨ys.map V.str, eD', small1000 (by rw [List.length_map]; omega), (ka.trans kb).mut nDD, t'', ys ++ [y], D''.mut bDD, by omega, by rw [upd_same, List.map_append]; rfl, by rw [List.length_append, ly]; rfl, fun z hz => ?_⟩
      rcases List.mem_append.mp hz with hz | hz
      · exact oky z hz
      · rw [List.mem_singleton.mp hz]
        exact ty
    obtain ⟨k15, t15, ys, D15, ht15, eDD, ly, oky⟩ := hP
    have eL15 := k15 _ _ eT (fun z => bL1 (.inl z)) (fun z => bL1 (.inr z))
    refine ⟨L1, DD, _, _, rfl, rfl, eL15, eDD, zz _ (by rw [List.length_map, List.length_map]; omega), fun L2 nL2 => ?_⟩
    generalize h16 : upd H15 L2 _ = H16
    obtain ⟨s16, eL2⟩ := new_of h16 nL2
    have bL2 := D15.fresh nL2
    have D16 := D15.same s16
    have hza16 := Same.tup s16 (Kept.tup D14 k15 (Same.tup s14 hza13))
    refine ⟨.ref za, rfl, .str tx, rfl, zz 1 (by decide), fun o2 no2 => ?_⟩
    generalize h17 : upd H16 o2 _ = H17
    obtain ⟨s17, eo2⟩ := new_of h17 no2
    have bo2 := D16.fresh no2
    have D17 := D16.same s17
    refine ⟨.ref d, rfl, d, c, t15, rfl, D17, by omega, fun H18 vo eo k18 D18 rpo mo => ?_⟩
    refine ⟨zz 5 (by decide), fun L3 nL3 => ?_⟩
    generalize h19 : upd H18 L3 _ = H19
    obtain ⟨s19, eL3⟩ := new_of h19 nL3
    have eL2' := s19 _ _ (k18 _ _ (s17 _ _ eL2) (fun z => bL2 (.inl z)) (fun z => bL2 (.inr z)))
    refine ⟨L2, L3, _, _, rfl, rfl, eL2', eL3, zz _ (by simp only [List.length_append, List.length_map, List.length_cons, List.length_nil]; omega), fun L4 nL4 => ?_⟩
    generalize h20 : upd H19 L4 _ = H20
    obtain ⟨s20, eL4⟩ := new_of h20 nL4
    have hza20 := Same.tup (s19.trans s20) (Kept.tup D17 k18 (Same.tup s17 hza16))
    obtain ⟨x0, rt, er⟩ : ∃ x0 rt, r = x0 :: rt := by
      cases r with
      | nil => have := okr'.1; simp at this; omega
      | cons x0 rt => exact ⟨x0, rt, rfl⟩
    have lr : r.length = n := okr'.1
    have lrt : rt.length + 1 = n := by rw [← lr, er]; rfl
    have brt : ∀ x ∈ rt, 0 ≤ x ∧ x < 1000 := fun x hx => br x (by rw [er]; exact List.mem_cons_of_mem _ hx)
    have hzc : SqT K H20 za (V.int x0 :: rt.map V.int) := by rw [er] at hza20; exact hza20
    refine ⟨.ref L4, rfl, .int p, rfl, zz 1 (by decide), fun o3 no3 => ?_⟩
    generalize h21 : upd H20 o3 _ = H21
    obtain ⟨s21, e21⟩ := new_of h21 no3
    refine ⟨.ref za, rfl, 1, rfl, za, _, rfl, Same.tup s21 hzc, fun c1 H22 s22 h22 => ?_⟩
    rw [cut70] at h22
    refine ⟨o3, c1, _, _, rfl, rfl, .inl (.inl (s22 _ _ e21)), h22, zz _ (by simp only [List.length_cons, List.length_nil, List.length_map]; omega), fun z1 H23 s23 h23 => ?_⟩
    refine ⟨z1, p :: rt, rfl, h23, by rw [List.length_cons]; omega, fun x hx => ?_, fun H24 s24 => ?_⟩
    · rcases List.mem_cons.mp hx with rfl | hx
      · exact ⟨by omega, by omega⟩
      · exact brt x hx
    have s2024 := s21.trans (s22.trans (s23.trans s24))
    refine ⟨.ref za, rfl, 1, rfl, za, _, rfl, Same.tup s2024 hzc, fun c2 H25 s25 h25 => ?_⟩
    rw [cut70] at h25
    refine ⟨c2, rt, rfl, h25, by omega, brt, fun H26 s26 => ?_⟩
    have s2026 := s2024.trans (s25.trans s26)
    refine ⟨.ref za, rfl, zz 1 (by decide), fun o4 no4 => ?_⟩
    generalize h27 : upd H26 o4 _ = H27
    obtain ⟨s27, e27⟩ := new_of h27 no4
    have s2027 := s2026.trans s27
    refine ⟨za, o4, _, _, rfl, rfl, Same.tup s2027 hza20, .inl (.inl e27), zz _ (by simp only [List.length_cons, List.length_nil, List.length_map]; omega), fun z2 H28 s28 h28 => ?_⟩
    refine ⟨z2, r ++ [0], rfl, by rw [List.map_append]; exact h28, by rw [List.length_append, List.length_singleton]; omega, fun x hx => ?_, fun H29 s29 => ?_⟩
    · rcases List.mem_append.mp hx with hx | hx
      · exact br x hx
      · rw [List.mem_singleton.mp hx]
        exact ⟨by omega, by omega⟩
    have s2029 := s2027.trans (s28.trans s29)
    refine ⟨.str tx, rfl, "+", tx, rfl, rfl, zz _ (by have : ("+" : Str).length = 1 := rfl; omega), zz 4 (by decide), fun L5 nL5 => ?_⟩
    generalize h30 : upd H29 L5 _ = H30
    obtain ⟨s30, eL5⟩ := new_of h30 nL5
    have eL4' := (s2029.trans s30) _ _ eL4
    refine ⟨L4, L5, _, _, rfl, rfl, eL4', eL5, zz _ (by simp only [List.length_append, List.length_map, List.length_cons, List.length_nil]; omega), fun L6 nL6 => ?_⟩
    generalize h31 : upd H30 L6 _ = H31
    obtain ⟨s31, eL6⟩ := new_of h31 nL6
    have s2031 := s2029.trans (s30.trans s31)
    have rep_strs : ∀ (H' : Hp) (T : List Str), RepAll K H' (fun _ => False) (T.map V.str) (T.map PyData.str) := fun H' T => by
      induction T with
      | nil => exact .nil
      | cons z T ih => exact .cons (.str z) ih
    obtain ⟨xs, ds, eX, lx, RA, OA⟩ : ∃ (xs : List V) (ds : List PyData), H31 L6 = some (.lst xs) ∧ xs.length ≤ 100 ∧ RepAll K H31 (fun _ => False) xs ds ∧ ∀ e ∈ ds, Ok70 e := by
      refine ⟨_, ((T9.map PyData.str ++ ys.map PyData.str) ++ [rowD r, .none, .int 5, .list [.str tx], eo]) ++ ([rowT (p :: rt), rowT rt, rowT (r ++ [0]), "+" ++ tx].map PyData.str), eL6, by simp only [List.length_append, List.length_map, List.length_cons, List.length_nil]; omega, ?_, fun e he => ?_⟩
      · refine repAll_append (repAll_append (repAll_append (rep_strs _ T9) (rep_strs _ ys)) ?_) (rep_strs _ [_, _, _, _])
        have st : Stays (fun _ => False) H18 H31 := Stays.of (s19.trans (s20.trans s2031))
        refine .cons (.tup (Same.tup s2031 hza20) (repAll_ints r)) (.cons .non (.cons (.int 5) (.cons (.lst ((s19.trans (s20.trans s2031)) _ _ (k18 _ _ eo2 (fun z => bo2 (.inl z)) (fun z => bo2 (.inr z)))) (fun z => z) (.cons (.str tx) .nil)) (.cons (rep_stays st _ _ (rep_weak (fun a h => h.elim) _ _ rpo)) .nil))))
      · rcases List.mem_append.mp he with he | he
        · rcases List.mem_append.mp he with he | he
          · rcases List.mem_append.mp he with he | he
            · obtain ⟨z, mz, rfl⟩ := List.mem_map.mp he
              exact ok70_str (okT z mz)
            · obtain ⟨z, mz, rfl⟩ := List.mem_map.mp he
              exact ok70_str (oky z mz)
          · simp only [List.mem_cons, List.not_mem_nil, or_false] at he
            rcases he with rfl | rfl | rfl | rfl | rfl
            · exact ⟨(fitz_row1 (p := p) (by omega) n8 r okr).fit (by decide) (by decide), fun z ez => by cases ez⟩
            · exact ⟨⟨by decide +kernel, rfl, by decide +kernel⟩, fun z ez => by cases ez⟩
            · exact ⟨⟨by decide +kernel, rfl, by decide +kernel⟩, fun z ez => by cases ez⟩
            · exact ⟨(fitz_list (B := 3010) (k := 0) (n := 1) (ds := [.str tx]) (by simp) (fun y hy => by rw [List.mem_singleton.mp hy]; exact (tr.mono (show 70 ≤ 300 by decide)).fit (by decide))).fit (by decide) (by decide), fun z ez => by cases ez⟩
            · exact odd_ok mo
        · obtain ⟨z, mz, rfl⟩ := List.mem_map.mp he
          refine ok70_str ?_
          simp only [List.mem_cons, List.not_mem_nil, or_false] at mz
          rcases mz with rfl | rfl | rfl | rfl
          · refine (rowT_tx (fun x hx => ?_) (by rw [List.length_cons]; omega)).mono (by decide)
            rcases List.mem_cons.mp hx with rfl | hx
            · exact ⟨by omega, by omega⟩
            · exact brt x hx
          · exact (rowT_tx brt (by omega)).mono (by decide)
          · refine (rowT_tx (fun x hx => ?_) (by rw [List.length_append, List.length_singleton]; omega)).mono (by decide)
            rcases List.mem_append.mp hx with hx | hx
            · exact br x hx
            · rw [List.mem_singleton.mp hx]
              exact ⟨by omega, by omega⟩
          · exact ((one "+" (by decide) (by decide)).app tr).mono (by decide)
    have hza31 := Same.tup s2031 hza20
    refine ⟨.ref L6, rfl, L6, rfl, ⟨_, .inl (.inl eX)⟩, for_it (walk_list (K := K) (a := L6) (xs := xs)) (fun i σ H' => Same H31 H' ∧ ∃ y10 y11 : Option V, σ = [some (.ref a), some (.ref d), some (.int p), some (.int (n : Int)), some (.ref za), none, some (.ref L), y7, some (.str tx), some (.ref L6), y10, y11]) ⟨Same.refl _, _, _, rfl⟩ (fun i σ H' _ hW => .inl (.inl (hW.1 _ _ eX))) (fun i v σ H' H'' hi hW hY => ?_) (fun σ H32 hW => ?_)⟩
    · obtain ⟨rfl, hv⟩ := hY
      obtain ⟨s32, y10, y11, rfl⟩ := hW
      obtain ⟨e, _, me, rp⟩ := repAll_get RA hv
      obtain ⟨fit, tz⟩ := OA e me
      have rp32 := rep_stays (Stays.of (bad := fun _ => False) s32) _ _ rp
      have bd : ∀ z, e = .str z → z.length ≤ 900 ∧ (Txt.split z " ").length ≤ 1000 ∧ ∀ y ∈ Txt.split z " ", y.length ≤ 300 := fun z ez => (tz z ez).split (by decide)
      have bd1 : ∀ z, e = .str z → z.length ≤ 900 ∧ (Txt.split z " ").length ≤ 1000 ∧ ∀ y ∈ Txt.split z " ", y.length ≤ 1000000 := fun z ez => ⟨(bd z ez).1, (bd z ez).2.1, fun y hy => Nat.le_trans ((bd z ez).2.2 y hy) (by decide)⟩
      have bd2 : ∀ z, e = .str z → z.length ≤ 900 ∧ (Txt.split z " ").length ≤ 1000 ∧ ∀ y ∈ Txt.split z " ", y.length ≤ 640 := fun z ez => ⟨(bd z ez).1, (bd z ez).2.1, fun y hy => Nat.le_trans ((bd z ez).2.2 y hy) (by decide)⟩
      have up : ∀ {Hx : Hp}, Same H31 Hx → Rep K Hx NB v e := fun s => rep_stays (Stays.of s) _ _ rp
      refine ⟨v, rfl, v, e, rfl, up s32, fit, ?_⟩
      cases hR : readR p n e with
      | none =>
        refine ⟨.int p, rfl, .int (n : Int), rfl, v, rfl, v, e, NB, p, n, rfl, up s32, bd1, n1, by omega, fun H33 l ms s33 er el => (nomatch hR.symm.trans er), fun H33 s33 _ => ?_⟩
        refine ⟨.int p, rfl, .int (n : Int), rfl, v, rfl, v, e, NB, p, n, rfl, up (s32.trans s33), bd2, n1, by omega, by omega, by omega, fun H34 l ms s34 er el => (nomatch hR.symm.trans er), fun H34 s34 _ => ?_⟩
        refine ⟨.bl true, .bl true, .bool true, rfl, .bl _, .bl _, .inl trivial, fun H35 s35 => ⟨true, rfl, iteF ?_⟩⟩
        have sx := s32.trans (s33.trans (s34.trans s35))
        refine ⟨v, rfl, v, e, rfl, up sx, fit, .str e.shown, rfl, rfl, _, rfl, ?_⟩
        rw [show (!decide (V.str e.shown = V.str e.shown)) = false by simp]
        refine iteF ?_
        exact ⟨sx, _, _, rfl⟩
      | some ms =>
        have lm := readR_len hR (by omega)
        refine ⟨.int p, rfl, .int (n : Int), rfl, v, rfl, v, e, NB, p, n, rfl, up s32, bd1, n1, by omega, fun H33 l1 ms1 s33 er el1 => ?_, fun H33 s33 er => (nomatch hR.symm.trans er)⟩
        cases hR.symm.trans er
        refine ⟨.int p, rfl, .int (n : Int), rfl, v, rfl, v, e, NB, p, n, rfl, up (s32.trans s33), bd2, n1, by omega, by omega, by omega, fun H34 l2 ms2 s34 er2 el2 => ?_, fun H34 s34 er2 => (nomatch hR.symm.trans er2)⟩
        cases hR.symm.trans er2
        refine ⟨.ref l1, .ref l2, rowD ms, rfl, row_dp (.inl (.inl (s34 _ _ el1))), row_dp (.inl (.inl el2)), .inr ⟨ms.map PyData.int, rfl, by rw [List.length_map]; omega, fun x hx => by obtain ⟨y, _, rfl⟩ := List.mem_map.mp hx; exact .inl trivial⟩, fun H35 s35 => ⟨true, rfl, iteF ?_⟩⟩
        have sx := s32.trans (s33.trans (s34.trans s35))
        refine ⟨v, rfl, v, e, rfl, up sx, fit, .str e.shown, rfl, rfl, _, rfl, ?_⟩
        rw [show (!decide (V.str e.shown = V.str e.shown)) = false by simp]
        refine iteF ?_
        exact ⟨sx, _, _, rfl⟩
    obtain ⟨s32, y10, y11, rfl⟩ := hW
    refine ⟨.int p, rfl, .int (n : Int), rfl, .ref za, rfl, za, r, p, n, rfl, Same.tup s32 hza31, okr, by omega, fun H33 s33 => qq H33⟩
end
end OC
set_option Elab.async false
set_option linter.all false
set_option maxRecDepth 100000
namespace OC
open PySem PySem.Spec PyProof.Rows L2
/-! ### the end -/
set_option maxHeartbeats 8000000 in
theorem all_mk {l : PySem.W.OpenLaw} {w : World} {K : PySem.W.Frag} {h : Heap} {mg : Str → Option Value} {fa : Addr} (X : K.In h) (G : h.Ns mainGlobals mg) (hfa : mg "law" = some (.ref fa))
    {tFIGURES : Tok} (qcFIGURES : PySem.W.nsIn K mainGlobals "FIGURES" = some (some (.str "0123456789" tFIGURES)))
    {f0 : Addr} {od0 an0 : Option Addr} {sl0 : Array (Option Value)} {oc0 kV0 dc0 pm0 cd0 ct0 : Value}
    (a0 : PySem.W.nsIn K mainGlobals "is_number" = some (some (.ref f0))) (l0 : K.lookup f0 = some ⟨oc0, od0, .func (PySem.W.fnOf "is_number" "is_number" (defArgs s_is_number) (defBody s_is_number) (defScope s_is_number) .none kV0 dc0 pm0 an0 cd0 ct0), sl0⟩) (c0 : PySem.W.codeIn K cd0 "is_number" = true) (k0 : PySem.W.keepIn K (.ref f0) = true)
    {f1 : Addr} {od1 an1 : Option Addr} {sl1 : Array (Option Value)} {oc1 kV1 dc1 pm1 cd1 ct1 : Value}
    (a1 : PySem.W.nsIn K mainGlobals "is_rest" = some (some (.ref f1))) (l1 : K.lookup f1 = some ⟨oc1, od1, .func (PySem.W.fnOf "is_rest" "is_rest" (defArgs s_is_rest) (defBody s_is_rest) (defScope s_is_rest) .none kV1 dc1 pm1 an1 cd1 ct1), sl1⟩) (c1 : PySem.W.codeIn K cd1 "is_rest" = true) (k1 : PySem.W.keepIn K (.ref f1) = true)
    {f2 : Addr} {od2 an2 : Option Addr} {sl2 : Array (Option Value)} {oc2 kV2 dc2 pm2 cd2 ct2 : Value}
    (a2 : PySem.W.nsIn K mainGlobals "is_row" = some (some (.ref f2))) (l2 : K.lookup f2 = some ⟨oc2, od2, .func (PySem.W.fnOf "is_row" "is_row" (defArgs s_is_row) (defBody s_is_row) (defScope s_is_row) .none kV2 dc2 pm2 an2 cd2 ct2), sl2⟩) (c2 : PySem.W.codeIn K cd2 "is_row" = true) (k2 : PySem.W.keepIn K (.ref f2) = true)
    {f3 : Addr} {od3 an3 : Option Addr} {sl3 : Array (Option Value)} {oc3 kV3 dc3 pm3 cd3 ct3 : Value}
    (a3 : PySem.W.nsIn K mainGlobals "is_numeral" = some (some (.ref f3))) (l3 : K.lookup f3 = some ⟨oc3, od3, .func (PySem.W.fnOf "is_numeral" "is_numeral" (defArgs s_is_numeral) (defBody s_is_numeral) (defScope s_is_numeral) .none kV3 dc3 pm3 an3 cd3 ct3), sl3⟩) (c3 : PySem.W.codeIn K cd3 "is_numeral" = true) (k3 : PySem.W.keepIn K (.ref f3) = true)
    {f4 : Addr} {od4 an4 : Option Addr} {sl4 : Array (Option Value)} {oc4 kV4 dc4 pm4 cd4 ct4 : Value}
    (a4 : PySem.W.nsIn K mainGlobals "read_numbers" = some (some (.ref f4))) (l4 : K.lookup f4 = some ⟨oc4, od4, .func (PySem.W.fnOf "read_numbers" "read_numbers" (defArgs s_read_numbers) (defBody s_read_numbers) (defScope s_read_numbers) .none kV4 dc4 pm4 an4 cd4 ct4), sl4⟩) (c4 : PySem.W.codeIn K cd4 "read_numbers" = true) (k4 : PySem.W.keepIn K (.ref f4) = true)
    {f5 : Addr} {od5 an5 : Option Addr} {sl5 : Array (Option Value)} {oc5 kV5 dc5 pm5 cd5 ct5 : Value}
    (a5 : PySem.W.nsIn K mainGlobals "row_text" = some (some (.ref f5))) (l5 : K.lookup f5 = some ⟨oc5, od5, .func (PySem.W.fnOf "row_text" "row_text" (defArgs s_row_text) (defBody s_row_text) (defScope s_row_text) .none kV5 dc5 pm5 an5 cd5 ct5), sl5⟩) (c5 : PySem.W.codeIn K cd5 "row_text" = true) (k5 : PySem.W.keepIn K (.ref f5) = true)
    {f6 : Addr} {od6 an6 : Option Addr} {sl6 : Array (Option Value)} {oc6 kV6 dc6 pm6 cd6 ct6 : Value}
    (a6 : PySem.W.nsIn K mainGlobals "read_row" = some (some (.ref f6))) (l6 : K.lookup f6 = some ⟨oc6, od6, .func (PySem.W.fnOf "read_row" "read_row" (defArgs s_read_row) (defBody s_read_row) (defScope s_read_row) .none kV6 dc6 pm6 an6 cd6 ct6), sl6⟩) (c6 : PySem.W.codeIn K cd6 "read_row" = true) (k6 : PySem.W.keepIn K (.ref f6) = true)
    {f7 : Addr} {od7 an7 : Option Addr} {sl7 : Array (Option Value)} {oc7 kV7 dc7 pm7 cd7 ct7 : Value}
    (a7 : PySem.W.nsIn K mainGlobals "_law_deck" = some (some (.ref f7))) (l7 : K.lookup f7 = some ⟨oc7, od7, .func (PySem.W.fnOf "_law_deck" "_law_deck" (defArgs s__law_deck) (defBody s__law_deck) (defScope s__law_deck) .none kV7 dc7 pm7 an7 cd7 ct7), sl7⟩) (c7 : PySem.W.codeIn K cd7 "_law_deck" = true) (k7 : PySem.W.keepIn K (.ref f7) = true)
    {f8 : Addr} {od8 an8 : Option Addr} {sl8 : Array (Option Value)} {oc8 kV8 dc8 pm8 cd8 ct8 : Value}
    (a8 : PySem.W.nsIn K mainGlobals "_law_draw" = some (some (.ref f8))) (l8 : K.lookup f8 = some ⟨oc8, od8, .func (PySem.W.fnOf "_law_draw" "_law_draw" (defArgs s__law_draw) (defBody s__law_draw) (defScope s__law_draw) .none kV8 dc8 pm8 an8 cd8 ct8), sl8⟩) (c8 : PySem.W.codeIn K cd8 "_law_draw" = true) (k8 : PySem.W.keepIn K (.ref f8) = true)
    {f9 : Addr} {od9 an9 : Option Addr} {sl9 : Array (Option Value)} {oc9 kV9 dc9 pm9 cd9 ct9 : Value}
    (a9 : PySem.W.nsIn K mainGlobals "_law_row" = some (some (.ref f9))) (l9 : K.lookup f9 = some ⟨oc9, od9, .func (PySem.W.fnOf "_law_row" "_law_row" (defArgs s__law_row) (defBody s__law_row) (defScope s__law_row) .none kV9 dc9 pm9 an9 cd9 ct9), sl9⟩) (c9 : PySem.W.codeIn K cd9 "_law_row" = true) (k9 : PySem.W.keepIn K (.ref f9) = true)
    {f10 : Addr} {od10 an10 : Option Addr} {sl10 : Array (Option Value)} {oc10 kV10 dc10 pm10 cd10 ct10 : Value}
    (a10 : PySem.W.nsIn K mainGlobals "_law_whole" = some (some (.ref f10))) (l10 : K.lookup f10 = some ⟨oc10, od10, .func (PySem.W.fnOf "_law_whole" "_law_whole" (defArgs s__law_whole) (defBody s__law_whole) (defScope s__law_whole) .none kV10 dc10 pm10 an10 cd10 ct10), sl10⟩) (c10 : PySem.W.codeIn K cd10 "_law_whole" = true) (k10 : PySem.W.keepIn K (.ref f10) = true)
    {f11 : Addr} {od11 an11 : Option Addr} {sl11 : Array (Option Value)} {oc11 kV11 dc11 pm11 cd11 ct11 : Value}
    (a11 : PySem.W.nsIn K mainGlobals "_law_same" = some (some (.ref f11))) (l11 : K.lookup f11 = some ⟨oc11, od11, .func (PySem.W.fnOf "_law_same" "_law_same" (defArgs s__law_same) (defBody s__law_same) (defScope s__law_same) .none kV11 dc11 pm11 an11 cd11 ct11), sl11⟩) (c11 : PySem.W.codeIn K cd11 "_law_same" = true) (k11 : PySem.W.keepIn K (.ref f11) = true)
    {f12 : Addr} {od12 an12 : Option Addr} {sl12 : Array (Option Value)} {oc12 kV12 dc12 pm12 cd12 ct12 : Value}
    (a12 : PySem.W.nsIn K mainGlobals "_law_odd" = some (some (.ref f12))) (l12 : K.lookup f12 = some ⟨oc12, od12, .func (PySem.W.fnOf "_law_odd" "_law_odd" (defArgs s__law_odd) (defBody s__law_odd) (defScope s__law_odd) .none kV12 dc12 pm12 an12 cd12 ct12), sl12⟩) (c12 : PySem.W.codeIn K cd12 "_law_odd" = true) (k12 : PySem.W.keepIn K (.ref f12) = true)
    {f13 : Addr} {od13 an13 : Option Addr} {sl13 : Array (Option Value)} {oc13 kV13 dc13 pm13 cd13 ct13 : Value}
    (a13 : PySem.W.nsIn K mainGlobals "_law_is_row" = some (some (.ref f13))) (l13 : K.lookup f13 = some ⟨oc13, od13, .func (PySem.W.fnOf "_law_is_row" "_law_is_row" (defArgs s__law_is_row) (defBody s__law_is_row) (defScope s__law_is_row) .none kV13 dc13 pm13 an13 cd13 ct13), sl13⟩) (c13 : PySem.W.codeIn K cd13 "_law_is_row" = true) (k13 : PySem.W.keepIn K (.ref f13) = true)
    {f14 : Addr} {od14 an14 : Option Addr} {sl14 : Array (Option Value)} {oc14 kV14 dc14 pm14 cd14 ct14 : Value}
    (a14 : PySem.W.nsIn K mainGlobals "_law_row_text" = some (some (.ref f14))) (l14 : K.lookup f14 = some ⟨oc14, od14, .func (PySem.W.fnOf "_law_row_text" "_law_row_text" (defArgs s__law_row_text) (defBody s__law_row_text) (defScope s__law_row_text) .none kV14 dc14 pm14 an14 cd14 ct14), sl14⟩) (c14 : PySem.W.codeIn K cd14 "_law_row_text" = true) (k14 : PySem.W.keepIn K (.ref f14) = true)
    {f15 : Addr} {od15 an15 : Option Addr} {sl15 : Array (Option Value)} {oc15 kV15 dc15 pm15 cd15 ct15 : Value}
    (a15 : PySem.W.nsIn K mainGlobals "_law_read" = some (some (.ref f15))) (l15 : K.lookup f15 = some ⟨oc15, od15, .func (PySem.W.fnOf "_law_read" "_law_read" (defArgs s__law_read) (defBody s__law_read) (defScope s__law_read) .none kV15 dc15 pm15 an15 cd15 ct15), sl15⟩) (c15 : PySem.W.codeIn K cd15 "_law_read" = true) (k15 : PySem.W.keepIn K (.ref f15) = true)
    {f16 : Addr} {od16 an16 : Option Addr} {sl16 : Array (Option Value)} {oc16 kV16 dc16 pm16 cd16 ct16 : Value}
    (a16 : PySem.W.nsIn K mainGlobals "_law_due" = some (some (.ref f16))) (l16 : K.lookup f16 = some ⟨oc16, od16, .func (PySem.W.fnOf "_law_due" "_law_due" (defArgs s__law_due) (defBody s__law_due) (defScope s__law_due) .none kV16 dc16 pm16 an16 cd16 ct16), sl16⟩) (c16 : PySem.W.codeIn K cd16 "_law_due" = true) (k16 : PySem.W.keepIn K (.ref f16) = true)
    {f17 : Addr} {od17 an17 : Option Addr} {sl17 : Array (Option Value)} {oc17 kV17 dc17 pm17 cd17 ct17 : Value}
    (a17 : PySem.W.nsIn K mainGlobals "_law_bent_text" = some (some (.ref f17))) (l17 : K.lookup f17 = some ⟨oc17, od17, .func (PySem.W.fnOf "_law_bent_text" "_law_bent_text" (defArgs s__law_bent_text) (defBody s__law_bent_text) (defScope s__law_bent_text) .none kV17 dc17 pm17 an17 cd17 ct17), sl17⟩) (c17 : PySem.W.codeIn K cd17 "_law_bent_text" = true) (k17 : PySem.W.keepIn K (.ref f17) = true)
    {f18 : Addr} {od18 an18 : Option Addr} {sl18 : Array (Option Value)} {oc18 kV18 dc18 pm18 cd18 ct18 : Value}
    (a18 : PySem.W.nsIn K mainGlobals "law" = some (some (.ref f18))) (l18 : K.lookup f18 = some ⟨oc18, od18, .func (PySem.W.fnOf "law" "law" (defArgs s_law) (defBody s_law) (defScope s_law) .none kV18 dc18 pm18 an18 cd18 ct18), sl18⟩) (c18 : PySem.W.codeIn K cd18 "law" = true) (k18 : PySem.W.keepIn K (.ref f18) = true)
    (z_abs : PySem.W.nsIn K mainGlobals "abs" = some none)
    (z_all : PySem.W.nsIn K mainGlobals "all" = some none)
    (z_bool : PySem.W.nsIn K mainGlobals "bool" = some none)
    (z_int : PySem.W.nsIn K mainGlobals "int" = some none)
    (z_isinstance : PySem.W.nsIn K mainGlobals "isinstance" = some none)
    (z_len : PySem.W.nsIn K mainGlobals "len" = some none)
    (z_range : PySem.W.nsIn K mainGlobals "range" = some none)
    (z_repr : PySem.W.nsIn K mainGlobals "repr" = some none)
    (z_str : PySem.W.nsIn K mainGlobals "str" = some none)
    (z_tuple : PySem.W.nsIn K mainGlobals "tuple" = some none)
    (z_zip : PySem.W.nsIn K mainGlobals "zip" = some none)
    (z_ValueError : PySem.W.nsIn K mainGlobals "ValueError" = some none)
    (en_get : PySem.W.specialIn K (.builtin "object.__class__") "__get__" = some (some (.builtin "getset_descriptor.__get__"))) (en_set : PySem.W.takesIn K (.builtin "object.__class__") = some true)
    {C0 : Addr} (ea0 : PySem.W.nsIn K mainGlobals "CallError" = some (some (.ref C0))) (ek0 : PySem.W.keepIn K (.ref C0) = true) (eb0 : PySem.W.subIn K (.ref C0) (.type "BaseException") = some true) (et0 : PySem.W.typeIn K (.ref C0) = some (.type "type")) (ed0 : PySem.W.hasDictIn K C0 = true)
    (eg0 : PySem.W.findIn K (.ref C0) "__getattribute__" = some (some (.builtin "BaseException.__getattribute__"))) (eh0 : PySem.W.findIn K (.ref C0) "__getattr__" = some none) (ec0 : PySem.W.findIn K (.ref C0) "__class__" = some (some (.builtin "object.__class__"))) (em0 : PySem.W.mroIn K C0 (.type "object") = some true)
    (ex0 : PySem.W.excIn K C0 [.type "ValueError", .type "Exception", .type "BaseException", .type "object"] "ValueError.__new__" = true)
    {C1 : Addr} (ea1 : PySem.W.nsIn K mainGlobals "NoRow" = some (some (.ref C1))) (ek1 : PySem.W.keepIn K (.ref C1) = true) (eb1 : PySem.W.subIn K (.ref C1) (.type "BaseException") = some true) (et1 : PySem.W.typeIn K (.ref C1) = some (.type "type")) (ed1 : PySem.W.hasDictIn K C1 = true)
    (eg1 : PySem.W.findIn K (.ref C1) "__getattribute__" = some (some (.builtin "BaseException.__getattribute__"))) (eh1 : PySem.W.findIn K (.ref C1) "__getattr__" = some none) (ec1 : PySem.W.findIn K (.ref C1) "__class__" = some (some (.builtin "object.__class__"))) (em1 : PySem.W.mroIn K C1 (.type "object") = some true)
    (ex1 : PySem.W.excIn K C1 [.type "ValueError", .type "Exception", .type "BaseException", .type "object"] "ValueError.__new__" = true)
    {C2 : Addr} (ea2 : PySem.W.nsIn K mainGlobals "NoText" = some (some (.ref C2))) (ek2 : PySem.W.keepIn K (.ref C2) = true) (eb2 : PySem.W.subIn K (.ref C2) (.type "BaseException") = some true) (et2 : PySem.W.typeIn K (.ref C2) = some (.type "type")) (ed2 : PySem.W.hasDictIn K C2 = true)
    (eg2 : PySem.W.findIn K (.ref C2) "__getattribute__" = some (some (.builtin "BaseException.__getattribute__"))) (eh2 : PySem.W.findIn K (.ref C2) "__getattr__" = some none) (ec2 : PySem.W.findIn K (.ref C2) "__class__" = some (some (.builtin "object.__class__"))) (em2 : PySem.W.mroIn K C2 (.type "object") = some true)
    (ex2 : PySem.W.excIn K C2 [.type "ValueError", .type "Exception", .type "BaseException", .type "object"] "ValueError.__new__" = true)
    (s0_0 : PySem.W.subIn K (.ref C0) (.ref C0) = some true)
    (s1_1 : PySem.W.subIn K (.ref C1) (.ref C1) = some true)
    (s2_0 : PySem.W.subIn K (.ref C2) (.ref C0) = some true)
    (s2_1 : PySem.W.subIn K (.ref C2) (.ref C1) = some false)
    (s2_2 : PySem.W.subIn K (.ref C2) (.ref C2) = some true)
    (s2_ValueError : PySem.W.subIn K (.ref C2) (.type "ValueError") = some true)
    : ∃ fd : FuncData, (∀ (s : Shared) (v : Value), BindsTo s fd ⟨[v], []⟩ [("_law_script", v)]) ∧ ∀ base : Heap, K.In base → base.Ns mainGlobals mg → HasSys base → FnG l.prog w K mg base CX0 10 fa fd ["_law_script"] (sp_law K) := by
  have e := hfa.symm.trans (PySem.W.mg_of X G a18)
  cases e
  have T : Top K mg := {
    e_CallError := err_of X G ea0 ek0 eb0 et0 ed0 eg0 eh0 ec0 em0 en_get en_set,
    n_CallError := by rw [adr_of (PySem.W.mg_of X G ea0)]; exact ex0,
    e_NoRow := err_of X G ea1 ek1 eb1 et1 ed1 eg1 eh1 ec1 em1 en_get en_set,
    n_NoRow := by rw [adr_of (PySem.W.mg_of X G ea1)]; exact ex1,
    e_NoText := err_of X G ea2 ek2 eb2 et2 ed2 eg2 eh2 ec2 em2 en_get en_set,
    n_NoText := by rw [adr_of (PySem.W.mg_of X G ea2)]; exact ex2,
    s_CallError_CallError := by rw [adr_of (PySem.W.mg_of X G ea0)]; exact s0_0,
    s_NoRow_NoRow := by rw [adr_of (PySem.W.mg_of X G ea1)]; exact s1_1,
    s_NoText_CallError := by rw [adr_of (PySem.W.mg_of X G ea2), adr_of (PySem.W.mg_of X G ea0)]; exact s2_0,
    s_NoText_NoRow := by rw [adr_of (PySem.W.mg_of X G ea2), adr_of (PySem.W.mg_of X G ea1)]; exact s2_1,
    s_NoText_NoText := by rw [adr_of (PySem.W.mg_of X G ea2)]; exact s2_2,
    s_NoText_ValueError := by rw [adr_of (PySem.W.mg_of X G ea2)]; exact s2_ValueError,
    c_FIGURES := ⟨_, PySem.W.mg_of X G qcFIGURES⟩,
    b_abs := PySem.W.mg_none_of X G z_abs,
    b_all := PySem.W.mg_none_of X G z_all,
    b_bool := PySem.W.mg_none_of X G z_bool,
    b_int := PySem.W.mg_none_of X G z_int,
    b_isinstance := PySem.W.mg_none_of X G z_isinstance,
    b_len := PySem.W.mg_none_of X G z_len,
    b_range := PySem.W.mg_none_of X G z_range,
    b_repr := PySem.W.mg_none_of X G z_repr,
    b_str := PySem.W.mg_none_of X G z_str,
    b_tuple := PySem.W.mg_none_of X G z_tuple,
    b_zip := PySem.W.mg_none_of X G z_zip,
    b_ValueError := PySem.W.mg_none_of X G z_ValueError,
    d_is_number := df_of X G a0 l0 c0 k0 (fun _ _ _ _ _ _ us hl => match us, hl with | [_], _ => rfl),
    d_is_rest := df_of X G a1 l1 c1 k1 (fun _ _ _ _ _ _ us hl => match us, hl with | [_, _], _ => rfl),
    d_is_row := df_of X G a2 l2 c2 k2 (fun _ _ _ _ _ _ us hl => match us, hl with | [_, _, _], _ => rfl),
    d_is_numeral := df_of X G a3 l3 c3 k3 (fun _ _ _ _ _ _ us hl => match us, hl with | [_], _ => rfl),
    d_read_numbers := df_of X G a4 l4 c4 k4 (fun _ _ _ _ _ _ us hl => match us, hl with | [_], _ => rfl),
    d_row_text := df_of X G a5 l5 c5 k5 (fun _ _ _ _ _ _ us hl => match us, hl with | [_], _ => rfl),
    d_read_row := df_of X G a6 l6 c6 k6 (fun _ _ _ _ _ _ us hl => match us, hl with | [_, _, _], _ => rfl),
    d__law_deck := df_of X G a7 l7 c7 k7 (fun _ _ _ _ _ _ us hl => match us, hl with | [_], _ => rfl),
    d__law_draw := df_of X G a8 l8 c8 k8 (fun _ _ _ _ _ _ us hl => match us, hl with | [_, _], _ => rfl),
    d__law_row := df_of X G a9 l9 c9 k9 (fun _ _ _ _ _ _ us hl => match us, hl with | [_, _, _], _ => rfl),
    d__law_whole := df_of X G a10 l10 c10 k10 (fun _ _ _ _ _ _ us hl => match us, hl with | [_], _ => rfl),
    d__law_same := df_of X G a11 l11 c11 k11 (fun _ _ _ _ _ _ us hl => match us, hl with | [_, _], _ => rfl),
    d__law_odd := df_of X G a12 l12 c12 k12 (fun _ _ _ _ _ _ us hl => match us, hl with | [_], _ => rfl),
    d__law_is_row := df_of X G a13 l13 c13 k13 (fun _ _ _ _ _ _ us hl => match us, hl with | [_, _, _], _ => rfl),
    d__law_row_text := df_of X G a14 l14 c14 k14 (fun _ _ _ _ _ _ us hl => match us, hl with | [_], _ => rfl),
    d__law_read := df_of X G a15 l15 c15 k15 (fun _ _ _ _ _ _ us hl => match us, hl with | [_, _, _], _ => rfl),
    d__law_due := df_of X G a16 l16 c16 k16 (fun _ _ _ _ _ _ us hl => match us, hl with | [_, _, _], _ => rfl),
    d__law_bent_text := df_of X G a17 l17 c17 k17 (fun _ _ _ _ _ _ us hl => match us, hl with | [_, _], _ => rfl) }
  have F := fun_mk (st := s_law) l18 c18 k18
  exact ⟨PySem.W.fnOf "law" "law" (defArgs s_law) (defBody s_law) (defScope s_law) .none kV18 dc18 pm18 an18 cd18 ct18, fun s v => .of_eq rfl, fun base _ _ hs => ok_law T hs F⟩
end OC
open PySem PySem.W PyProof.Rows
set_option Elab.async false
set_option maxRecDepth 100000 in
set_option maxHeartbeats 0 in
theorem PySem.Challenge.cw_opencalls_k70_rows_as_texts_holds : PySem.Challenge.rw_opencalls_k70_rows_as_texts.Holds := by
  w_on; o_law
  refine HandSHeadRun.head_any (r := OpenLaw.row PySem.Challenge.rw_opencalls_k70_rows_as_texts) (q := view (OpenLaw.row PySem.Challenge.rw_opencalls_k70_rows_as_texts).prog [27]) (H := kHook OCR.K0 OCR.as0 OCR.as_ok) (ob := OCR.ob) (M := 20000) (loose := OCR.names) (d := HandSHeadRun.topDef (OpenLaw.row PySem.Challenge.rw_opencalls_k70_rows_as_texts).prog 27) (kwd := []) OCR.ob_eq
    (by kernel_rfl) (fun s => by kernel_rfl) OCR.run (by kernel_rfl) (by kernel_rfl) (by kernel_rfl) (by rfl) (by first | assumption | decide +kernel) (by decide +kernel) ⟨rfl, rfl, rfl, rfl, rfl, by decide +kernel⟩ ?hw ?hc
  case hw => w_witness2
  case hc =>
    k_fill
    refine OC.walk_ofS (l := PySem.Challenge.rw_opencalls_k70_rows_as_texts) (n := 63) (k := 10) (x := "_law_script") (CX := fun _ => L2.CX0) (sp := fun w => OC.sp_law _) rfl (by decide) (by kernel_rfl) ⟨rfl, by decide, by decide⟩ (by decide +kernel) (K := OCR.K0) (fun w h Y => PySem.W.kIn_of Y) ?F (fun _ _ a ns hl _ hS => ⟨a, ns, rfl, hS, hl, fun _ => rfl⟩) (fun _ _ _ _ _ h => h)
    case F =>
      intro w mg fa h KX G hmg0
      have hmg : mg ("law" : PySem.Str) = some (.ref fa) := by
        have e : (HandSHeadRun.topDef (OpenLaw.row PySem.Challenge.rw_opencalls_k70_rows_as_texts).prog 27).name = ("law" : PySem.Str) := by kernel_rfl
        rw [← e]
        exact hmg0
      refine' OC.all_mk KX G hmg ?qcFIGURES ?a0 ?l0 ?c0 ?k0 ?a1 ?l1 ?c1 ?k1 ?a2 ?l2 ?c2 ?k2 ?a3 ?l3 ?c3 ?k3 ?a4 ?l4 ?c4 ?k4 ?a5 ?l5 ?c5 ?k5 ?a6 ?l6 ?c6 ?k6 ?a7 ?l7 ?c7 ?k7 ?a8 ?l8 ?c8 ?k8 ?a9 ?l9 ?c9 ?k9 ?a10 ?l10 ?c10 ?k10 ?a11 ?l11 ?c11 ?k11 ?a12 ?l12 ?c12 ?k12 ?a13 ?l13 ?c13 ?k13 ?a14 ?l14 ?c14 ?k14 ?a15 ?l15 ?c15 ?k15 ?a16 ?l16 ?c16 ?k16 ?a17 ?l17 ?c17 ?k17 ?a18 ?l18 ?c18 ?k18 ?z_abs ?z_all ?z_bool ?z_int ?z_isinstance ?z_len ?z_range ?z_repr ?z_str ?z_tuple ?z_zip ?z_ValueError ?en_get ?en_set ?ea0 ?ek0 ?eb0 ?et0 ?ed0 ?eg0 ?eh0 ?ec0 ?em0 ?ex0 ?ea1 ?ek1 ?eb1 ?et1 ?ed1 ?eg1 ?eh1 ?ec1 ?em1 ?ex1 ?ea2 ?ek2 ?eb2 ?et2 ?ed2 ?eg2 ?eh2 ?ec2 ?em2 ?ex2 ?s0_0 ?s1_1 ?s2_0 ?s2_1 ?s2_2 ?s2_ValueError
      (case qcFIGURES => k_is); (case a0 => k_is); (case l0 => k_is); (case c0 => k_is); (case k0 => k_is); (case a1 => k_is); (case l1 => k_is); (case c1 => k_is); (case k1 => k_is); (case a2 => k_is); (case l2 => k_is); (case c2 => k_is); (case k2 => k_is); (case a3 => k_is); (case l3 => k_is); (case c3 => k_is); (case k3 => k_is); (case a4 => k_is); (case l4 => k_is); (case c4 => k_is); (case k4 => k_is); (case a5 => k_is); (case l5 => k_is); (case c5 => k_is); (case k5 => k_is); (case a6 => k_is); (case l6 => k_is); (case c6 => k_is); (case k6 => k_is); (case a7 => k_is); (case l7 => k_is); (case c7 => k_is); (case k7 => k_is); (case a8 => k_is); (case l8 => k_is); (case c8 => k_is); (case k8 => k_is); (case a9 => k_is); (case l9 => k_is); (case c9 => k_is); (case k9 => k_is); (case a10 => k_is); (case l10 => k_is); (case c10 => k_is); (case k10 => k_is); (case a11 => k_is); (case l11 => k_is); (case c11 => k_is); (case k11 => k_is); (case a12 => k_is); (case l12 => k_is); (case c12 => k_is); (case k12 => k_is); (case a13 => k_is); (case l13 => k_is); (case c13 => k_is); (case k13 => k_is); (case a14 => k_is); (case l14 => k_is); (case c14 => k_is); (case k14 => k_is); (case a15 => k_is); (case l15 => k_is); (case c15 => k_is); (case k15 => k_is); (case a16 => k_is); (case l16 => k_is); (case c16 => k_is); (case k16 => k_is); (case a17 => k_is); (case l17 => k_is); (case c17 => k_is); (case k17 => k_is); (case a18 => k_is); (case l18 => k_is); (case c18 => k_is); (case k18 => k_is); (case z_abs => k_is); (case z_all => k_is); (case z_bool => k_is); (case z_int => k_is); (case z_isinstance => k_is); (case z_len => k_is); (case z_range => k_is); (case z_repr => k_is); (case z_str => k_is); (case z_tuple => k_is); (case z_zip => k_is); (case z_ValueError => k_is); (case en_get => k_is); (case en_set => k_is); (case ea0 => k_is); (case ek0 => k_is); (case eb0 => k_is); (case et0 => k_is); (case ed0 => k_is); (case eg0 => k_is); (case eh0 => k_is); (case ec0 => k_is); (case em0 => k_is); (case ex0 => k_exc); (case ea1 => k_is); (case ek1 => k_is); (case eb1 => k_is); (case et1 => k_is); (case ed1 => k_is); (case eg1 => k_is); (case eh1 => k_is); (case ec1 => k_is); (case em1 => k_is); (case ex1 => k_exc); (case ea2 => k_is); (case ek2 => k_is); (case eb2 => k_is); (case et2 => k_is); (case ed2 => k_is); (case eg2 => k_is); (case eh2 => k_is); (case ec2 => k_is); (case em2 => k_is); (case ex2 => k_exc); (case s0_0 => k_is); (case s1_1 => k_is); (case s2_0 => k_is); (case s2_1 => k_is); (case s2_2 => k_is); (case s2_ValueError => k_is)
