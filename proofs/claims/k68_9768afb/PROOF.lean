import PyProof.Rows.All
import Wide.All
import OpenK.AllK
import Wide.FinOn
import HandS.Base
import HandS.Call
import HandS.List
import HandS.Comp
import HandS.Ends
import HandS.Dict
import HandS.Iter
import HandS.Text
import HandS.Words
import HandS.WordsList
import HandS.WordsDict
import HandS.IsInst
import HandS.Zip
import HandS.Conv
import HandS.Walk
import HandS.Style
import HandS.TupAny
import HandS.TupMul
import HandS.EndBits
import HandS.Codes
import KE.GoesMore
import HandS.SortKw
import HandS.TupSets
import KE.KDictDisplayH
import KE.DatumOrd
import HandS.SortOrd
import HandS.Wide
import PyProof.StrLawsRepr
import HandS.Exc
import HandS.ExcOwn
import HandS.WordsExc
import HandS.ExcIs
import KE.GoesZip
import HandS.Strs
import KE.SortData
import KE.KDictPairs
import HandS.Lambda
import KE.DataMinKey
import HandS.EndTab
import KE.KNest
import KE.DataMinMax
import HandS.Defaults
import PyProof.Rows.StrMeet
import PyProof.EqKinds
import PyProof.NeKinds
import KE.DataCmp
import HandS.Star
import HandS.CallLocal
import HandS.More
import HandS.TupLen
import HandS.SlotsOwn
import HandS.Deep
import HandS.Rev
import PySem.Challenge.RW_opencalls_k68_whole_asides_in_the_book
set_option Elab.async false
set_option linter.all false
set_option maxRecDepth 100000
namespace OC
open PySem PySem.Spec PyProof.Rows L2
/-! ### defs and their promises, by name -/
structure Df (K : PySem.W.Frag) (mg : Str → Option Value) (x : Str) (st : Stmt) (ps : List Str) : Prop where
  ex : ∃ (f : Addr) (fd : FuncData), Fun K x x st f fd ∧ Binds K fd ps [] ∧ mg x = some (.ref f)
structure Ok (P : Program) (w : World) (K : PySem.W.Frag) (mg : Str → Option Value) (base : Heap) (k : Nat) (x : Str) (ps : List Str) (sp : Sp) : Prop where
  ex : ∃ (f : Addr) (fd : FuncData), FnOk P w K mg base CX0 k f fd ps sp ∧ mg x = some (.ref f) ∧ PySem.W.keepIn K (.ref f) = true ∧ Binds K fd ps []
section
variable {P : Program} {w : World} {K : PySem.W.Frag} {mg : Str → Option Value} {base : Heap}
theorem Df.ok {x : Str} {st : Stmt} {N ps : List Str} {k : Nat} {sp : Sp} (D : Df K mg x st ps) (S : FnScope N ps (defScope st)) (len : ∀ vs H Q E, sp vs H Q E → vs.length = ps.length)
    (hbody : ∀ (f : Addr) (cdv : Value) (A : Around) (outer : List Env) (s : Shared) (H : Hp) (vs : List V) (Q : VK) (E : XK), Room k (A.deeper (envOfC x (defScope st) s.heap.objs.size f cdv)) → sp vs H Q E →
      ∃ t, PSs (cxOf CX0 P w K mg base N x (defScope st) f cdv A outer s H E).nox (defBody st) t ∧ t { nx := fun _ H' => Q .non H', rt := Q } (start N vs) H) : Ok P w K mg base (k + 1) x ps sp := by
  obtain ⟨f, fd, F, b, g⟩ := D.ex
  exact ⟨f, fd, F.ok S len (hbody f), g, F.kp, b⟩
theorem Ok.mono {x : Str} {ps : List Str} {j k : Nat} {sp : Sp} (O : Ok P w K mg base j x ps sp) (h : j ≤ k) : Ok P w K mg base k x ps sp := by
  obtain ⟨f, fd, F, r⟩ := O.ex
  exact ⟨f, fd, F.mono h, r⟩
theorem Ok.imp {x : Str} {ps : List Str} {k : Nat} {sp sp' : Sp} (O : Ok P w K mg base k x ps sp) (h : ∀ vs H Q E, sp' vs H Q E → sp vs H Q E) : Ok P w K mg base k x ps sp' := by
  obtain ⟨f, fd, F, r⟩ := O.ex
  exact ⟨f, fd, F.imp h, r⟩
end
section
variable {X : Cx} {x : Str} {ps : List Str} {k : Nat} {sp : Sp}
theorem pe_callO {e : Expr} {es : List Expr} {t : TA} {p pos : Pos} (O : Ok X.prog X.w X.K X.mg X.base k x ps sp) (hr : Room k X.A) (hg : Gl X x) (ha : PA X (e :: es) t) (hdb : (x == ("__debug__" : Str)) = false := by decide)
    (he : starEach (e :: es) X.env = (false, eval e X.env) :: starEach es X.env := by rfl) (hpl : (backTo pos (starEach es X.env)).any (·.1) = false := by rfl) :
    PE X (.Call (.Name x p) (e :: es) [] pos) (tCall sp [] E0 t) := by
  obtain ⟨f, fd, F, g, kp, b⟩ := O.ex
  exact pe_call F hr hg g kp b .nil pass0 ha hdb he hpl
end
/-! ### from the head's facts -/
theorem df_of {K : PySem.W.Frag} {h : Heap} {mg : Str → Option Value} {x : Str} {st : Stmt} {ps : List Str} {f : Addr} {oc : Value} {od an : Option Addr} {osl : Array (Option Value)} {kV doc pm cdv ct : Value} (X : K.In h) (G : h.Ns mainGlobals mg)
    (a : PySem.W.nsIn K mainGlobals x = some (some (.ref f)))
    (l : K.lookup f = some ⟨oc, od, .func (PySem.W.fnOf x x (defArgs st) (defBody st) (defScope st) .none kV doc pm an cdv ct), osl⟩)
    (c : PySem.W.codeIn K cdv x = true) (k : PySem.W.keepIn K (.ref f) = true)
    (hb : ∀ (kV doc pm : Value) (an : Option Addr) (cdv ct : Value) (us : List Value), us.length = ps.length → bindArgs (PySem.W.fnOf x x (defArgs st) (defBody st) (defScope st) .none kV doc pm an cdv ct) ⟨us, []⟩ = pure (ps.zip us)) :
    Df K mg x st ps := by
  have F := fun_mk (st := st) l c k
  exact ⟨f, _, F, F.binds hb, PySem.W.mg_of X G a⟩
end OC
set_option Elab.async false
set_option linter.all false
set_option maxRecDepth 100000
namespace OC
open PySem PySem.Spec PyProof.Rows L2
/-! ### kinds of values -/
inductive Kd where
  | non | bl | int | str | lst | tup | dct
  deriving DecidableEq
def Kd.name : Kd → String
  | .non => "NoneType" | .bl => "bool" | .int => "int" | .str => "str" | .lst => "list" | .tup => "tuple" | .dct => "dict"
def KdOf (K : PySem.W.Frag) (H : Hp) (v : V) (k : Kd) : Prop := TyX K H v (.type k.name)
section
variable {K : PySem.W.Frag} {H : Hp}
theorem kd_int (i : Int) : KdOf K H (.int i) .int := .base (.int i)
theorem kd_bl (b : Bool) : KdOf K H (.bl b) .bl := .base (.bl b)
theorem kd_non : KdOf K H .non .non := .base .non
theorem kd_str (x : Str) : KdOf K H (.str x) .str := .base (.str x)
theorem kd_tup {a : Addr} {xs : List V} (h : SqT K H a xs) : KdOf K H (.ref a) .tup := by
  rcases h with (h | ⟨o, h⟩) | ⟨o, its, n, h, c, _⟩
  · exact .base (.tup h)
  · exact .fTuple h
  · exact .kTuple h c
theorem kd_lst {a : Addr} {xs : List V} (h : SqL K H a xs) : KdOf K H (.ref a) .lst := by
  rcases h with (h | ⟨o, h⟩) | ⟨o, its, n, h, c, _⟩
  · exact .base (.lst h)
  · exact .base (.frz h)
  · exact .kList h c
theorem kd_dct {a : Addr} {kvs : List (Key × V)} (h : H a = some (.dK kvs)) : KdOf K H (.ref a) .dct := .base (.dK h)
theorem kit_int (k : Kd) : PySem.W.kitOne K (.type k.name) (.type "int") = some (decide (k = .int) || decide (k = .bl)) := by
  cases k <;> exact kit_ty (by decide +kernel)
theorem kit_bool (k : Kd) : PySem.W.kitOne K (.type k.name) (.type "bool") = some (decide (k = .bl)) := by
  cases k <;> exact kit_ty (by decide +kernel)
theorem kit_tuple (k : Kd) : PySem.W.kitOne K (.type k.name) (.type "tuple") = some (decide (k = .tup)) := by
  cases k <;> exact kit_ty (by decide +kernel)
theorem kit_str (k : Kd) : PySem.W.kitOne K (.type k.name) (.type "str") = some (decide (k = .str)) := by
  cases k <;> exact kit_ty (by decide +kernel)
end
/-! ### heaps -/
theorem same_upd {H : Hp} {p : Addr} {o : HO} (h : H p = none) : Same H (upd H p o) := fun b x e => by
  rw [upd_ne (ne_of_none e h)]
  exact e
theorem same_mut {H H' : Hp} {p : Addr} {o : HO} (e : Same H H') (h : H p = none) : Same H (upd H' p o) := fun b x q => by
  rw [upd_ne (ne_of_none q h)]
  exact e b x q
theorem Same.tup {K : PySem.W.Frag} {H H' : Hp} {a : Addr} {xs : List V} (e : Same H H') (h : SqT K H a xs) : SqT K H' a xs := by
  rcases h with (h | ⟨o, h⟩) | h
  · exact .inl (.inl (e _ _ h))
  · exact .inl (.inr ⟨o, e _ _ h⟩)
  · exact .inr h
/-- all but the deck's two lists stays -/
def Kept (d c : Addr) (H H' : Hp) : Prop := ∀ b o, H b = some o → b ≠ d → b ≠ c → H' b = some o
theorem Kept.refl (d c : Addr) (H : Hp) : Kept d c H H := fun _ _ h _ _ => h
theorem Kept.trans {d c : Addr} {H H1 H2 : Hp} (a : Kept d c H H1) (b : Kept d c H1 H2) : Kept d c H H2 := fun x o h n m => b x o (a x o h n m) n m
theorem Kept.of {d c : Addr} {H H' : Hp} (a : Same H H') : Kept d c H H' := fun x o h _ _ => a x o h
/-- the deck: a list of the cells' list and the count of draws -/
structure Deck (H : Hp) (d c : Addr) (t : Int) : Prop where
  hd : H d = some (.lst [.ref c, .int t])
  hc : ∃ cells : List Int, H c = some (.lst (cells.map V.int)) ∧ (∀ x ∈ cells, 0 ≤ x) ∧ cells.length ≤ 63
  ne : c ≠ d
  t0 : 0 ≤ t
theorem Deck.same {H H' : Hp} {d c : Addr} {t : Int} (D : Deck H d c t) (s : Same H H') : Deck H' d c t := by
  obtain ⟨hd, ⟨cells, h1, h2⟩, n, t0⟩ := D
  exact ⟨s _ _ hd, ⟨cells, s _ _ h1, h2⟩, n, t0⟩
theorem Kept.tup {K : PySem.W.Frag} {d c : Addr} {t : Int} {H H' : Hp} {a : Addr} {xs : List V} (D : Deck H d c t) (e : Kept d c H H') (h : SqT K H a xs) : SqT K H' a xs := by
  obtain ⟨hd, ⟨cells, h1, h2⟩, n, t0⟩ := D
  rcases h with (h | ⟨o, h⟩) | h
  · exact .inl (.inl (e _ _ h (fun z => by subst z; rw [hd] at h; cases h) (fun z => by subst z; rw [h1] at h; cases h)))
  · exact .inl (.inr ⟨o, e _ _ h (fun z => by subst z; rw [hd] at h; cases h) (fun z => by subst z; rw [h1] at h; cases h)⟩)
  · exact .inr h
theorem at_int {xs : List Int} {z : Int} (h0 : 0 ≤ z) (h1 : z < (xs.length : Int)) : ∃ x, x ∈ xs ∧ xs[z.toNat]? = some x ∧ atI (xs.map V.int) z = some (.int x) := by
  have hl : z.toNat < xs.length := by omega
  refine ⟨xs[z.toNat], List.getElem_mem hl, List.getElem?_eq_getElem hl, ?_⟩
  refine at_of (j := z.toNat) (by omega) ?_
  rw [List.getElem?_map, List.getElem?_eq_getElem hl]
  rfl
theorem ix_nat {n : Nat} {z : Int} (h0 : 0 ≤ z) (h1 : z < (n : Int)) : ixN n z = some z.toNat := by
  unfold ixN
  rw [if_pos h0, if_pos h1]
theorem in_ints (i : Int) (xs : List Int) : inV (.int i) (xs.map V.int) = decide (i ∈ xs) := by
  unfold inV
  induction xs with
  | nil => simp
  | cons x r ih =>
    rw [List.map_cons, List.any_cons, ih]
    by_cases e : x = i
    · subst e; simp [eqV]
    · have : ¬ i = x := fun q => e q.symm
      simp [eqV, e, this]
end OC
set_option Elab.async false
set_option linter.all false
set_option maxRecDepth 100000
namespace OC
open PySem PySem.Spec PyProof.Rows L2
/-! ### readings by name -/
/-! ### data kept -/
mutual
theorem dp_same {K : PySem.W.Frag} {H H' : Hp} (e : Same H H') : ∀ (d : PyData) (v : V), Dp K H v d → Dp K H' v d
  | .none, _, h => by cases h; exact .non
  | .bool b, _, h => by cases h; exact .bl b
  | .int i, _, h => by cases h; exact .int i
  | .str x, _, h => by cases h; exact .str x
  | .list ds, _, h => by
    cases h with
    | lst hs ha => exact .lst (e.seq hs) (dpAll_same e ds _ ha)
  | .tuple ds, _, h => by
    cases h with
    | tup hs ha => exact .tup (Same.tup e hs) (dpAll_same e ds _ ha)
  | .dict _, _, h => by cases h
theorem dpAll_same {K : PySem.W.Frag} {H H' : Hp} (e : Same H H') : ∀ (ds : List PyData) (vs : List V), DpAll K H vs ds → DpAll K H' vs ds
  | [], _, h => by cases h; exact .nil
  | d :: ds, _, h => by
    cases h with
    | cons h1 h2 => exact .cons (dp_same e d _ h1) (dpAll_same e ds _ h2)
end
theorem dpAll_len {K : PySem.W.Frag} {H : Hp} : ∀ {vs : List V} {ds : List PyData}, DpAll K H vs ds → vs.length = ds.length
  | _, _, .nil => rfl
  | _, _, .cons _ t => by rw [List.length_cons, List.length_cons, dpAll_len t]
theorem dpAll_get {K : PySem.W.Frag} {H : Hp} : ∀ {vs : List V} {ds : List PyData} {i : Nat} {v : V}, DpAll K H vs ds → vs[i]? = some v → ∃ d, ds[i]? = some d ∧ d ∈ ds ∧ Dp K H v d
  | _, _, i, v, .nil, e => by simp at e
  | _, _, 0, v, .cons h t, e => by
    have e : _ = v := Option.some.inj e
    subst e
    exact ⟨_, rfl, List.mem_cons_self, h⟩
  | _, _, i + 1, v, .cons h t, e => by
    obtain ⟨d, h1, h2, h3⟩ := dpAll_get (i := i) (v := v) t e
    exact ⟨d, h1, List.mem_cons_of_mem _ h2, h3⟩
theorem dpAll_ints {K : PySem.W.Frag} {H : Hp} : ∀ ns : List Int, DpAll K H (ns.map V.int) (ns.map PyData.int)
  | [] => .nil
  | n :: r => .cons (.int n) (dpAll_ints r)
/-! ### any thing, with dicts: its kind -/
def keyD : Key → PyData
  | .inl i => .int i
  | .inr x => .str x
def flD : V → PyData
  | .bl b => .bool b | .int i => .int i | .str x => .str x | _ => .none
def flOk : V → Bool
  | .non => true | .bl _ => true | .int _ => true | .str _ => true | _ => false
mutual
inductive Rep (K : PySem.W.Frag) (H : Hp) (bad : Addr → Prop) : V → PyData → Prop
  | non : Rep K H bad .non .none
  | bl (b : Bool) : Rep K H bad (.bl b) (.bool b)
  | int (i : Int) : Rep K H bad (.int i) (.int i)
  | str (x : Str) : Rep K H bad (.str x) (.str x)
  | lst {a : Addr} {xs : List V} {ds : List PyData} : H a = some (.lst xs) → ¬ bad a → RepAll K H bad xs ds → Rep K H bad (.ref a) (.list ds)
  | tup {a : Addr} {xs : List V} {ds : List PyData} : SqT K H a xs → RepAll K H bad xs ds → Rep K H bad (.ref a) (.tuple ds)
  | dct {a : Addr} {kvs : List (Key × V)} : H a = some (.dK kvs) → (kvs.all fun p => flOk p.2) = true → Rep K H bad (.ref a) (.dict (kvs.map fun p => (keyD p.1, flD p.2)))
inductive RepAll (K : PySem.W.Frag) (H : Hp) (bad : Addr → Prop) : List V → List PyData → Prop
  | nil : RepAll K H bad [] []
  | cons {v : V} {vs : List V} {d : PyData} {ds : List PyData} : Rep K H bad v d → RepAll K H bad vs ds → RepAll K H bad (v :: vs) (d :: ds)
end
def kdOf : PyData → Kd
  | .none => .non | .bool _ => .bl | .int _ => .int | .str _ => .str | .list _ => .lst | .tuple _ => .tup | .dict _ => .dct
section
variable {K : PySem.W.Frag} {H : Hp} {bad : Addr → Prop}
theorem Rep.kd : ∀ {v : V} {d : PyData}, Rep K H bad v d → KdOf K H v (kdOf d)
  | _, _, .non => kd_non
  | _, _, .bl b => kd_bl b
  | _, _, .int i => kd_int i
  | _, _, .str x => kd_str x
  | _, _, .lst h _ _ => kd_lst (.inl (.inl h))
  | _, _, .tup h _ => kd_tup h
  | _, _, .dct h _ => kd_dct h
theorem repAll_len : ∀ {vs : List V} {ds : List PyData}, RepAll K H bad vs ds → vs.length = ds.length
  | _, _, .nil => rfl
  | _, _, .cons _ t => by rw [List.length_cons, List.length_cons, repAll_len t]
theorem repAll_get : ∀ {vs : List V} {ds : List PyData} {i : Nat} {v : V}, RepAll K H bad vs ds → vs[i]? = some v → ∃ d, ds[i]? = some d ∧ d ∈ ds ∧ Rep K H bad v d
  | _, _, i, v, .nil, e => by simp at e
  | _, _, 0, v, .cons h t, e => by
    have e : _ = v := Option.some.inj e
    subst e
    exact ⟨_, rfl, List.mem_cons_self, h⟩
  | _, _, i + 1, v, .cons h t, e => by
    obtain ⟨d, h1, h2, h3⟩ := repAll_get (i := i) (v := v) t e
    exact ⟨d, h1, List.mem_cons_of_mem _ h2, h3⟩
theorem repAll_append : ∀ {xs ys : List V} {ds es : List PyData}, RepAll K H bad xs ds → RepAll K H bad ys es → RepAll K H bad (xs ++ ys) (ds ++ es)
  | _, _, _, _, .nil, h => h
  | _, _, _, _, .cons h t, g => .cons h (repAll_append t g)
theorem repAll_ints : ∀ ns : List Int, RepAll K H bad (ns.map V.int) (ns.map PyData.int)
  | [] => .nil
  | n :: r => .cons (.int n) (repAll_ints r)
end
/-! ### tuples stay -/
def Tk (H H' : Hp) : Prop := ∀ (K : PySem.W.Frag) (a : Addr) (xs : List V), SqT K H a xs → SqT K H' a xs
theorem Tk.refl (H : Hp) : Tk H H := fun _ _ _ h => h
theorem Tk.trans {H H1 H2 : Hp} (a : Tk H H1) (b : Tk H1 H2) : Tk H H2 := fun K x xs h => b K x xs (a K x xs h)
theorem Tk.of {H H' : Hp} (s : Same H H') : Tk H H' := fun _ _ _ h => Same.tup s h
theorem Tk.kept {d c : Addr} {t : Int} {H H' : Hp} (D : Deck H d c t) (k : Kept d c H H') : Tk H H' := fun _ _ _ h => Kept.tup D k h
theorem Tk.mut {H H' : Hp} {D : Addr} {xs ys : List V} (k : Tk H H') (h : H' D = some (.lst xs)) : Tk H (upd H' D (.lst ys)) := fun K a zs q => by
  rcases k K a zs q with (q | ⟨o, q⟩) | q
  · refine .inl (.inl ?_)
    rw [upd_ne (fun z => by subst z; rw [h] at q; cases q)]
    exact q
  · refine .inl (.inr ⟨o, ?_⟩)
    rw [upd_ne (fun z => by subst z; rw [h] at q; cases q)]
    exact q
  · exact .inr q
theorem Tk.new {H H' : Hp} {D : Addr} {o : HO} (k : Tk H H') (h : H' D = none) : Tk H (upd H' D o) := k.trans (Tk.of (same_upd h))
/-- what stays of things: tuples and dicts all, lists but the bad ones -/
structure Stays (bad : Addr → Prop) (H H' : Hp) : Prop where
  t : Tk H H'
  d : ∀ a kvs, H a = some (.dK kvs) → H' a = some (.dK kvs)
  l : ∀ a xs, H a = some (.lst xs) → ¬ bad a → H' a = some (.lst xs)
theorem Stays.of {bad : Addr → Prop} {H H' : Hp} (s : Same H H') : Stays bad H H' := ⟨Tk.of s, fun _ _ h => s _ _ h, fun _ _ h _ => s _ _ h⟩
theorem Stays.trans {bad : Addr → Prop} {H H1 H2 : Hp} (a : Stays bad H H1) (b : Stays bad H1 H2) : Stays bad H H2 := ⟨a.t.trans b.t, fun x y h => b.d x y (a.d x y h), fun x y h n => b.l x y (a.l x y h n) n⟩
theorem Stays.kept {d c : Addr} {t : Int} {H H' : Hp} (D : Deck H d c t) (k : Kept d c H H') : Stays (fun a => a = d ∨ a = c) H H' := by
  refine ⟨Tk.kept D k, fun a xs h => k a _ h (fun z => ?_) (fun z => ?_), fun a xs h nb => k a _ h (fun z => nb (.inl z)) (fun z => nb (.inr z))⟩
  · subst z; rw [D.hd] at h; cases h
  · obtain ⟨cells, h1, _⟩ := D.hc
    subst z; rw [h1] at h; cases h
mutual
theorem rep_stays {K : PySem.W.Frag} {bad : Addr → Prop} {H H' : Hp} (e : Stays bad H H') : ∀ (d : PyData) (v : V), Rep K H bad v d → Rep K H' bad v d
  | .none, _, h => by cases h; exact .non
  | .bool b, _, h => by cases h; exact .bl b
  | .int i, _, h => by cases h; exact .int i
  | .str x, _, h => by cases h; exact .str x
  | .list ds, _, h => by
    cases h with
    | lst hs hb ha => exact .lst (e.l _ _ hs hb) hb (repAll_stays e ds _ ha)
  | .tuple ds, _, h => by
    cases h with
    | tup hs ha => exact .tup (e.t _ _ _ hs) (repAll_stays e ds _ ha)
  | .dict _, _, h => by
    cases h with
    | dct hs hf => exact .dct (e.d _ _ hs) hf
theorem repAll_stays {K : PySem.W.Frag} {bad : Addr → Prop} {H H' : Hp} (e : Stays bad H H') : ∀ (ds : List PyData) (vs : List V), RepAll K H bad vs ds → RepAll K H' bad vs ds
  | [], _, h => by cases h; exact .nil
  | d :: ds, _, h => by
    cases h with
    | cons h1 h2 => exact .cons (rep_stays e d _ h1) (repAll_stays e ds _ h2)
end
/-! ### zip of two tuples, walked -/
theorem walk_zipT {K : PySem.W.Frag} {a b : Addr} {xs ys : List V} {n : Nat} (hn : n = min xs.length ys.length) : Walk (RZ.ItzT K a b) n (fun H => SqT K H a xs ∧ SqT K H b ys) (YPair (fun i => xs[i]?) (fun i => ys[i]?)) where
  goes i H hi q := by
    have hx : i < xs.length := by rw [hn] at hi; exact Nat.lt_of_lt_of_le hi (Nat.min_le_left _ _)
    have hy : i < ys.length := by rw [hn] at hi; exact Nat.lt_of_lt_of_le hi (Nat.min_le_right _ _)
    exact ⟨xs, ys, _, _, q.1, q.2, List.getElem?_eq_getElem hx, List.getElem?_eq_getElem hy⟩
  stops H q := ⟨xs, ys, q.1, q.2, by rw [hn]; omega⟩
  yields i H v H' _ q y := by
    obtain ⟨T, x, z, ev, nT, eH, gx, gz⟩ := y
    exact ⟨T, x, z, ev, nT, eH, gx xs q.1, gz ys q.2⟩
/-! ### the same: two things of one data -/
end OC
set_option Elab.async false
set_option linter.all false
set_option maxRecDepth 100000
set_option maxHeartbeats 2000000
namespace OC
open PySem PySem.Spec PyProof.Rows L2
/-! ### a tuple taken once is itself -/
theorem tuple_mul1 (l : Addr) (its : Array Value) (m : Nat) (od : Option Addr) (so : Array (Option Value)) (u : Tok) :
    Meets (Builtin.«tuple.__mul__» ⟨[.ref l, .int 1 u], []⟩) (fun _ R s => s.heap.get? l = some { cls := .type "tuple", dict := od, data := .seq its m, slots := so } ∧ R (.ok (.ret (Value.ref l))) s) := by
  refine .of_wp fun prog w A R s hh => ?_
  obtain ⟨hp, g, d, tk, os⟩ := s
  obtain ⟨hl, hR⟩ := hh
  have fi := AutoSeq1.idx_int
  have c0 : (decide ((1 : Int) < -(2 ^ 63)) || decide ((1 : Int) ≥ 2 ^ 63)) = false := by decide
  have c1 : (its.isEmpty || (1 : Int) == 1) = true := by simp
  wp_walk using wpAny_loadPart' hl
  exact ⟨_, rfl, hR⟩
/-- t * n: a new tuple, or for n = 1 the same -/
def rRepA (K : PySem.W.Frag) : R2 := fun x y H Q => ∃ l k xs, x = .ref l ∧ y = .int k ∧ SqT K H l xs ∧ xs ≠ [] ∧ 1 ≤ k ∧ k ≤ 1000 ∧ xs.length ≤ 1000 ∧ (k = 1 → Q (.ref l) H) ∧ (2 ≤ k → ∀ p, H p = none → Q (.ref p) (upd H p (.tup (List.replicate k.toNat xs).flatten)))
theorem op_repA {X : Cx} : OpR X (binaryOp .Mult) (rRepA X.K) := by
  intro pins s σ H x y v u Q I rx ry h
  obtain ⟨l, k, xs, ex, ey, hT, hne, h1, h2, hz, q1, q2⟩ := h
  by_cases hk : k = 1
  · subst hk ex ey
    have q := q1 rfl
    cases rx
    obtain ⟨t, rfl⟩ := ry
    obtain ⟨its, r, ⟨⟨cls, dd, data, sl⟩, ho, hc, n, hd⟩, hs⟩ := I.tuple hT
    simp only at hc hd
    subst hc hd
    refine wpAny_binaryOp_repeat_ref (T := "tuple") (U := "int") (by decide) ⟨_, ho, rfl⟩ (fun s' => typeIs_int s' 1 t) noFill_tuple_mul F.fills_int_mul F.slot_int_rmul repeat_tuple F.slot_int_index.lookup ?_
    refine call_meets F.slot_int_rmul (typeIs_int s 1 t) F.entry_int_rmul (F.args_int_rmul_2 _ _) (int_rmul_tuple 1 t l its.toArray n dd sl) ⟨ho, rfl, ⟨_, ho, rfl⟩, ?_⟩
    exact call_meets F.slot_tuple_mul ⟨_, ho, rfl⟩ F.entry_tuple_mul (F.args_tuple_mul_2 _ _) (tuple_mul1 l its.toArray n dd sl t) ⟨ho, .ref l, H, I, rfl, q⟩
  · exact op_repT pins s σ H x y v u Q I rx ry ⟨l, k, xs, ex, ey, hT, hne, by omega, h2, hz, q2 (by omega)⟩
/-- the same, whichever tuple it is -/
def rRepB (K : PySem.W.Frag) : R2 := fun x y H Q => ∃ l k xs, x = .ref l ∧ y = .int k ∧ SqT K H l xs ∧ xs ≠ [] ∧ 1 ≤ k ∧ k ≤ 1000 ∧ xs.length ≤ 1000 ∧ ∀ p H', Same H H' → SqT K H' p (List.replicate k.toNat xs).flatten → Q (.ref p) H'
theorem op_repB {X : Cx} : OpR X (binaryOp .Mult) (rRepB X.K) := by
  intro pins s σ H x y v u Q I rx ry h
  obtain ⟨l, k, xs, ex, ey, hT, hne, h1, h2, hz, q⟩ := h
  refine op_repA pins s σ H x y v u Q I rx ry ⟨l, k, xs, ex, ey, hT, hne, h1, h2, hz, fun hk => q l H (Same.refl H) ?_, fun _ p np => q p _ (same_upd np) (.inl (.inl upd_same))⟩
  subst hk
  rw [show ((1 : Int).toNat) = 1 from rfl, List.replicate_one, List.flatten_cons, List.flatten_nil, List.append_nil]
  exact hT
theorem rep_int (n : Nat) (x : Int) : (List.replicate n [V.int x]).flatten = (List.replicate n x).map V.int := by
  induction n with
  | zero => rfl
  | succ n ih => rw [List.replicate_succ, List.flatten_cons, ih, List.replicate_succ]; rfl
end OC
set_option Elab.async false
set_option linter.all false
set_option maxRecDepth 100000
namespace OC
open PySem PySem.Spec PyProof.Rows L2
theorem new_of {H H' : Hp} {p : Addr} {o : HO} (h : upd H p o = H') (n : H p = none) : Same H H' ∧ H' p = some o := by
  subst h
  exact ⟨same_upd n, upd_same⟩
/-- a name that holds a list or a tuple, walked while G' holds -/
def iSeqV (K : PySem.W.Frag) (i : Nat) : TI := fun σ H R => ∃ (a : Addr) (xs : List V) (G' : Hp → Prop), σ[i]? = some (some (.ref a)) ∧ G' H ∧ ((∀ H', G' H' → SqL K H' a xs) ∨ (∀ H', G' H' → SqT K H' a xs)) ∧ ∀ J, Walk J xs.length G' (YAt xs) → R J H
theorem pi_seqv {X : Cx} {tg : Expr} {x : Str} {pos : Pos} (i : Nat) (he : PE X (.Name x pos) (tVar i)) : PI X tg (.Name x pos) (iSeqV X.K i) := by
  refine ⟨fun pins s σ H R I h => ?_⟩
  obtain ⟨a, xs, G', hs, hg, hq, r⟩ := h
  rcases hq with hq | hq
  · exact (pi_list he).run pins s σ H R I ⟨.ref a, hs, a, rfl, ⟨xs, hq H hg⟩, r _ (walk_list.mono hq fun _ _ _ _ _ _ y => y)⟩
  · exact (pi_tup he).run pins s σ H R I ⟨.ref a, hs, a, rfl, ⟨xs, hq H hg⟩, r _ (walk_tup.mono hq fun _ _ _ _ _ _ y => y)⟩
theorem sz1000 {n : Nat} (h : n ≤ 1000) : n ≤ sizeLine := Nat.le_of_lt (small1000 h)
mutual
def noL : PyData → Bool
  | .none => true | .bool _ => true | .int _ => true | .str _ => true | .list _ => false | .tuple ds => noLAll ds | .dict _ => false
def noLAll : List PyData → Bool
  | [] => true
  | d :: ds => noL d && noLAll ds
end
mutual
theorem dp_tk {K : PySem.W.Frag} {H H' : Hp} (e : Tk H H') : ∀ (d : PyData) (v : V), noL d = true → Dp K H v d → Dp K H' v d
  | .none, _, _, h => by cases h; exact .non
  | .bool b, _, _, h => by cases h; exact .bl b
  | .int i, _, _, h => by cases h; exact .int i
  | .str x, _, _, h => by cases h; exact .str x
  | .list ds, _, n, h => by simp [noL] at n
  | .tuple ds, _, n, h => by
    cases h with
    | tup hs ha => exact .tup (e K _ _ hs) (dpAll_tk e ds _ (by simpa [noL] using n) ha)
  | .dict _, _, _, h => by cases h
theorem dpAll_tk {K : PySem.W.Frag} {H H' : Hp} (e : Tk H H') : ∀ (ds : List PyData) (vs : List V), noLAll ds = true → DpAll K H vs ds → DpAll K H' vs ds
  | [], _, _, h => by cases h; exact .nil
  | d :: ds, _, n, h => by
    have n' : noL d = true ∧ noLAll ds = true := by simpa [noLAll] using n
    cases h with
    | cons h1 h2 => exact .cons (dp_tk e d _ n'.1 h1) (dpAll_tk e ds _ n'.2 h2)
end
/-! ### rows as data -/
def rowD (r : List Int) : PyData := .tuple (r.map PyData.int)
theorem noL_ints : ∀ r : List Int, noLAll (r.map PyData.int) = true
  | [] => by simp [noLAll]
  | n :: r => by simp [noLAll, noL, noL_ints r]
theorem noL_row (r : List Int) : noL (rowD r) = true := by
  unfold rowD
  rw [noL]
  exact noL_ints r
theorem noL_rows : ∀ rs : List (List Int), noLAll (rs.map rowD) = true
  | [] => by simp [noLAll]
  | r :: rs => by simp [noLAll, noL_row, noL_rows rs]
theorem lay_ints : ∀ ns : List Int, PyData.canLayAll0 (ns.map PyData.int) = true
  | [] => by simp only [List.map_nil, PyData.canLayAll0]
  | n :: r => by simp only [List.map_cons, PyData.canLayAll0, PyData.canLay0, lay_ints r, Bool.and_self]
theorem depth_ints : ∀ ns : List Int, PyData.depthAll (ns.map PyData.int) = 0
  | [] => by simp only [List.map_nil, PyData.depthAll]
  | n :: r => by simp only [List.map_cons, PyData.depthAll, PyData.depth, depth_ints r, Nat.max_self]
theorem lay_rows : ∀ rs : List (List Int), PyData.canLayAll0 (rs.map rowD) = true
  | [] => by simp only [List.map_nil, PyData.canLayAll0]
  | r :: rs => by simp only [List.map_cons, PyData.canLayAll0, rowD, PyData.canLay0, lay_ints r, lay_rows rs, Bool.and_self]
theorem depth_rows : ∀ rs : List (List Int), PyData.depthAll (rs.map rowD) ≤ 1
  | [] => by simp only [List.map_nil, PyData.depthAll]; omega
  | r :: rs => by
    have := depth_rows rs
    simp only [List.map_cons, PyData.depthAll, rowD, PyData.depth, depth_ints r]
    omega
theorem shaped_ints (ns : List Int) : SeqAt.shaped (.list (ns.map PyData.int)) = true := by
  unfold SeqAt.shaped
  simp only [PyData.canLay0, lay_ints, PyData.depth, depth_ints, Bool.true_and]
  rfl
theorem shaped_row (ns : List Int) : SeqAt.shaped (rowD ns) = true := by
  unfold SeqAt.shaped rowD
  simp only [PyData.canLay0, lay_ints, PyData.depth, depth_ints, Bool.true_and]
  rfl
theorem dpAll_int_inv {K : PySem.W.Frag} {H : Hp} : ∀ {xs : List V} {r : List Int}, DpAll K H xs (r.map PyData.int) → xs = r.map V.int
  | _, [], h => by cases h; rfl
  | _, n :: r, h => by
    cases h with
    | cons h1 h2 =>
      cases h1
      rw [dpAll_int_inv h2]
      rfl
theorem dp_row {K : PySem.W.Frag} {H : Hp} {v : V} {r : List Int} (h : Dp K H v (rowD r)) : ∃ a, v = .ref a ∧ SqT K H a (r.map V.int) := by
  unfold rowD at h
  cases h with
  | tup hs ha => exact ⟨_, rfl, (dpAll_int_inv ha) ▸ hs⟩
theorem row_dp {K : PySem.W.Frag} {H : Hp} {a : Addr} {r : List Int} (h : SqT K H a (r.map V.int)) : Dp K H (.ref a) (rowD r) := .tup h (dpAll_ints r)
theorem dpAll_append {K : PySem.W.Frag} {H : Hp} : ∀ {xs ys : List V} {ds es : List PyData}, DpAll K H xs ds → DpAll K H ys es → DpAll K H (xs ++ ys) (ds ++ es)
  | _, _, _, _, .nil, h => h
  | _, _, _, _, .cons h t, g => .cons h (dpAll_append t g)
theorem dpAll_row {K : PySem.W.Frag} {H : Hp} {vs : List V} {rs : List (List Int)} {i : Nat} {v : V} (h : DpAll K H vs (rs.map rowD)) (e : vs[i]? = some v) : ∃ a r, v = .ref a ∧ rs[i]? = some r ∧ r ∈ rs ∧ SqT K H a (r.map V.int) := by
  obtain ⟨d, g, _, hd⟩ := dpAll_get h e
  rw [List.getElem?_map] at g
  cases hr : rs[i]? with
  | none => rw [hr] at g; cases g
  | some r =>
    rw [hr] at g
    have ed : d = rowD r := (Option.some.inj g).symm
    subst ed
    obtain ⟨a, rfl, ha⟩ := dp_row hd
    exact ⟨a, r, rfl, rfl, List.mem_of_getElem? hr, ha⟩
/-- rests below p -/
def RowOk (p : Int) (r : List Int) : Prop := ∀ x ∈ r, 0 ≤ x ∧ x < p
/-! ### comprehensions of ints -/
def LcGoal (J : It) (g : TG) (tt : TT) (te : TE) (vs : List Nat) (σ : L2.St) (H : Hp) (Qd : Addr → Hp → Prop) : Prop := ∀ D, H D = none → ∃ W : Nat → Nat → Hp → Prop, (∃ m, W 0 m (upd H D (.lst []))) ∧ ∀ i m H, W i m H →
  (J.stop i H ∧ Qd D H) ∨ (J.go i H ∧ ∃ Nx : Hp → Prop, (∀ H', Nx H' → ∃ m', m' < m ∧ W (i + 1) m' H') ∧ ∀ x H', J.yld i H x H' → g x (wipe σ vs) H' fun σ2 H2 => wipe σ2 vs = wipe σ vs ∧ tt σ2 H2 fun b H3 =>
    if b = true then te σ2 H3 fun y H4 => ∃ acc, H4 D = some (.lst acc) ∧ acc.length < sizeLine ∧ Nx (upd H4 D (.lst (acc ++ [y]))) else Nx H3)
theorem lc_zipI {K : PySem.W.Frag} {a b : Addr} {xs ys : List Int} {σ : L2.St} {H : Hp} {Qd : Addr → Hp → Prop} {i j : Nat} {vs : List Nat} {te : TE} (f : Int → Int → Int) (hA : SqT K H a (xs.map V.int)) (hB : SqT K H b (ys.map V.int)) (hz : xs.length ≤ 1000)
    (hw : ∀ x y : Option V, wipe (((wipe σ vs).set i x).set j y) vs = wipe σ vs)
    (hte : ∀ (x y : Int) (H' : Hp) (Q' : VK), x ∈ xs → y ∈ ys → Same H H' → Q' (.int (f x y)) H' → te (((wipe σ vs).set i (some (.int x))).set j (some (.int y))) H' Q')
    (hd : ∀ D H', Same H H' → H D = none → H' D = some (.lst ((List.zipWith f xs ys).map V.int)) → Qd D H') :
    LcGoal (RZ.ItzT K a b) (gTup K 2 (gCons (gName i) (gCons (gName j) gNil))) tYes te vs σ H Qd := by
  intro D nD
  refine lc_it (walk_zipT (K := K) (a := a) (b := b) (xs := xs.map V.int) (ys := ys.map V.int) rfl) (fun k H' => Same H H' ∧ H' D = some (.lst (((List.zipWith f xs ys).take k).map V.int))) ⟨same_mut (Same.refl H) nD, upd_same⟩ (fun k H' _ hP => ⟨Same.tup hP.1 hA, Same.tup hP.1 hB⟩) (fun k x H1 H2 hk hP hY => ?_) (fun H' hP => hd D H' hP.1 nD ?_)
  · obtain ⟨Ta, x1, y1, rfl, nT, rfl, e1, e2⟩ := hY
    obtain ⟨sm, eD⟩ := hP
    have sT : Same H1 (upd H1 Ta (.tup [x1, y1])) := same_upd nT
    have e1 : (xs.map V.int)[k]? = some x1 := e1
    have e2 : (ys.map V.int)[k]? = some y1 := e2
    rw [List.getElem?_map] at e1 e2
    cases h1 : xs[k]? with
    | none => rw [h1] at e1; cases e1
    | some z1 =>
      cases h2 : ys[k]? with
      | none => rw [h2] at e2; cases e2
      | some z2 =>
        rw [h1] at e1
        rw [h2] at e2
        have q1 : x1 = V.int z1 := (Option.some.inj e1).symm
        have q2 : y1 = V.int z2 := (Option.some.inj e2).symm
        subst q1 q2
        refine ⟨Ta, [.int z1, .int z2], rfl, .inl (.inl upd_same), rfl, .int z1, [.int z2], rfl, .int z2, [], rfl, rfl, hw _ _, ?_⟩
        refine hte z1 z2 _ _ (List.mem_of_getElem? h1) (List.mem_of_getElem? h2) (sm.trans sT) ⟨_, sT _ _ eD, ?_, same_mut (sm.trans sT) nD, ?_⟩
        · rw [List.length_map, List.length_take, List.length_zipWith]
          exact small1000 (by omega)
        · rw [upd_same, List.take_add_one, List.getElem?_zipWith, h1, h2, List.map_append]
          rfl
  · obtain ⟨sm, eD⟩ := hP
    rw [eD, List.take_of_length_le]
    rw [List.length_zipWith, List.length_map, List.length_map]
    exact Nat.le_refl _
theorem lc_tupI {K : PySem.W.Frag} {a : Addr} {xs : List Int} {σ : L2.St} {H : Hp} {Qd : Addr → Hp → Prop} {i : Nat} {vs : List Nat} {te : TE} (f : Int → Int) (hA : SqT K H a (xs.map V.int)) (hz : xs.length ≤ 1000)
    (hw : ∀ x : Option V, wipe ((wipe σ vs).set i x) vs = wipe σ vs)
    (hte : ∀ (x : Int) (H' : Hp) (Q' : VK), x ∈ xs → Same H H' → Q' (.int (f x)) H' → te ((wipe σ vs).set i (some (.int x))) H' Q')
    (hd : ∀ D H', Same H H' → H D = none → H' D = some (.lst ((xs.map f).map V.int)) → Qd D H') :
    LcGoal (Itt K a) (gName i) tYes te vs σ H Qd := by
  intro D nD
  refine lc_it (walk_tup (K := K) (a := a) (xs := xs.map V.int)) (fun k H' => Same H H' ∧ H' D = some (.lst (((xs.map f).take k).map V.int))) ⟨same_mut (Same.refl H) nD, upd_same⟩ (fun k H' _ hP => Same.tup hP.1 hA) (fun k x H1 H2 hk hP hY => ?_) (fun H' hP => hd D H' hP.1 nD ?_)
  · obtain ⟨rfl, e1⟩ := hY
    obtain ⟨sm, eD⟩ := hP
    rw [List.getElem?_map] at e1
    cases h1 : xs[k]? with
    | none => rw [h1] at e1; cases e1
    | some z1 =>
      rw [h1] at e1
      have q1 : x = V.int z1 := (Option.some.inj e1).symm
      subst q1
      refine ⟨hw _, hte z1 _ _ (List.mem_of_getElem? h1) sm ⟨_, eD, ?_, same_mut sm nD, ?_⟩⟩
      · rw [List.length_map, List.length_take, List.length_map]
        exact small1000 (by omega)
      · rw [upd_same, List.take_add_one, List.getElem?_map, h1, List.map_append]
        rfl
  · obtain ⟨sm, eD⟩ := hP
    rw [eD, List.take_of_length_le]
    rw [List.length_map, List.length_map]
    exact Nat.le_refl _
end OC
set_option Elab.async false
set_option linter.all false
set_option maxRecDepth 100000
set_option maxHeartbeats 2000000
/-! defs that are called while no repr is under way (A.guards = some []): the layer's promise with that one fact more -/
namespace OC
open PySem PySem.Spec PyProof.Rows L2
structure FnG (P : Program) (w : World) (K : PySem.W.Frag) (mg : Str → Option Value) (base : Heap) (CX : CXT) (k : Nat)
    (f : Addr) (fd : FuncData) (ps : List Str) (sp : Sp) : Prop where
  len : ∀ vs H Q E, sp vs H Q E → vs.length = ps.length
  go : ∀ (A : Around) (outer : List Env) (s : Shared) (H : Hp) (args : Args) (us : List Value) (vs : List V) (Q : VK) (E : XK),
    Room k A → A.guards = some [] → Env0 P w K mg base A outer s H → BindsTo s fd args (ps.zip us) → Vals vs us → sp vs H Q E →
    codeAny (model P w) A (.call (.ref f) args) (CR CX outer P w H s Q E) s
section
variable {P : Program} {w : World} {K : PySem.W.Frag} {mg : Str → Option Value} {base : Heap} {CX : CXT} {k : Nat} {f : Addr} {fd : FuncData} {ps : List Str} {sp : Sp}
theorem FnG.of (F : FnOk P w K mg base CX k f fd ps sp) : FnG P w K mg base CX k f fd ps sp :=
  ⟨F.len, fun A outer s H args us vs Q E hr _ => F.run A outer s H args us vs Q E hr⟩
theorem FnG.mono {j : Nat} (F : FnG P w K mg base CX j f fd ps sp) (h : j ≤ k) : FnG P w K mg base CX k f fd ps sp :=
  ⟨F.len, fun A outer s H args us vs Q E hr => F.go A outer s H args us vs Q E (hr.mono h)⟩
end
/-- from the body, where no repr is under way -/
theorem fnG_of {CX : CXT} {P : Program} {w : World} {K : PySem.W.Frag} {mg : Str → Option Value} {base : Heap} {k : Nat} {f : Addr}
    {nm ql : Str} {pr : Arguments} {bd : List Stmt} {sc : Scope} {dV kV doc pm cdv ct oc : Value} {an od : Option Addr}
    {osl : Array (Option Value)} {N ps : List Str} {sp : Sp}
    (lk : K.lookup f = some ⟨oc, od, .func (PySem.W.fnOf nm ql pr bd sc dV kV doc pm an cdv ct), osl⟩)
    (hcd : PySem.W.codeIn K cdv ql = true) (S : FnScope N ps sc)
    (len : ∀ vs H Q E, sp vs H Q E → vs.length = ps.length)
    (hbody : ∀ (A : Around) (outer : List Env) (s : Shared) (H : Hp) (vs : List V) (Q : VK) (E : XK),
      Room k (A.deeper (envOfC ql sc s.heap.objs.size f cdv)) → A.guards = some [] → sp vs H Q E →
      ∃ t, PSs (cxOf CX P w K mg base N ql sc f cdv A outer s H E) bd t ∧ t { nx := fun _ H' => Q .non H', rt := Q } (start N vs) H) :
    FnG P w K mg base CX (k + 1) f (PySem.W.fnOf nm ql pr bd sc dV kV doc pm an cdv ct) ps sp where
  len := len
  go A outer s H args us vs Q E hr hgd e0 hb r hsp := by
    have same : ∀ b o, base.get? b = some o → s.heap.get? b = some o := fun b o e => (e0.bs b o e).1
    have inK : K.In s.heap := e0.mod.kin.keeps same
    have noLim : s.heap.NoLimit := e0.mod.nolimit.keeps same
    have kinds : ∀ y ∈ ps.zip us, sc.names.lookup y.1 = some .local ∨
        (sc.names.lookup y.1 = some .cell ∧ ((cellsFrom (s.heap.objs.size + 1) sc.names []).lookup y.1).isSome = true) := by
      rintro ⟨n, v⟩ hy
      exact (S.par n (List.of_mem_zip hy).1).imp id fun q => ⟨q, PySem.W.cellsFrom_some _ _ _ (.inl q)⟩
    apply codeAny_call_function hr.depth (inK _ _ lk) rfl S.co S.gen rfl (PySem.W.codeRec_of inK hcd)
    apply hb
    apply wpAny_newFunctionEnv_cells S.kind kinds
    intro env he s1 x
    cases he
    refine ⟨noLim.keeps x.toInCall.keep, codeAny_func ?_⟩
    obtain ⟨t, ht, hq⟩ := hbody A outer s H vs Q E (hr.deeper _) hgd hsp
    have I0 := inv_start (CX := CX) (P := P) (w := w) (E := E) S hr.hd e0 (len _ _ _ _ hsp) r x
    have ran := ht.run [] s1 (start N vs) H _ I0 hq
    apply wpAny_mono ran
    · intro fl s' hs
      rcases fl with _ | _ | _ | u
      all_goals first
        | (obtain ⟨v, σ', H', J, rv, q⟩ := hs; exact ⟨v, H', J.os, J.bare, J.base, J.hok, rv, q⟩)
        | (obtain ⟨σ', H', J, q⟩ := hs; exact ⟨V.non, H', J.os, J.bare, J.base, J.hok, rfl, q⟩)
        | (obtain ⟨_, _, _, q⟩ := hs; exact q.elim)
    · exact fun e s' hs => hs
/-! ### by name -/
section
variable {P : Program} {w : World} {K : PySem.W.Frag} {mg : Str → Option Value} {base : Heap}
theorem funG {x : Str} {st : Stmt} {f : Addr} {fd : FuncData} {N ps : List Str} {k : Nat} {sp : Sp} (F : Fun K x x st f fd) (S : FnScope N ps (defScope st)) (len : ∀ vs H Q E, sp vs H Q E → vs.length = ps.length)
    (hbody : ∀ (cdv : Value) (A : Around) (outer : List Env) (s : Shared) (H : Hp) (vs : List V) (Q : VK) (E : XK), Room k (A.deeper (envOfC x (defScope st) s.heap.objs.size f cdv)) → A.guards = some [] → sp vs H Q E →
      ∃ t, PSs (cxOf CX0 P w K mg base N x (defScope st) f cdv A outer s H E).nox (defBody st) t ∧ t { nx := fun _ H' => Q .non H', rt := Q } (start N vs) H) : FnG P w K mg base CX0 (k + 1) f fd ps sp := by
  obtain ⟨oc, od, kV, doc, pm, an, cdv, ct, osl, rfl, lk, hcd⟩ := F.ex
  refine fnG_of lk hcd S len ?_
  intro A outer s H vs Q E hr hgd hsp
  obtain ⟨t, h, q⟩ := hbody cdv A outer s H vs Q E hr hgd hsp
  exact ⟨t, h.nox, q⟩
end
end OC
set_option Elab.async false
set_option linter.all false
set_option maxRecDepth 100000
set_option maxHeartbeats 2000000
namespace OC
open PySem PySem.Spec PyProof.Rows L2
section
variable {P : Program} {w : World} {K : PySem.W.Frag} {mg mb : Str → Option Value} {CX : CXT} {k : Nat} {fa a : Addr} {fd : FuncData} {x : Str} {sp : Sp} {s₁ : Shared} {vs : List Value} {ns : List Int}
/-- the law's own call, where only the script may be tracked -/
theorem law_core (KX : K.In s₁.heap) (hns : s₁.heap.Ns mainGlobals mg) (hb : s₁.heap.Ns builtinsNs mb) (hbb : ∀ x : Str, x ≠ "__name__" → mb x = bootBuiltins x)
    (hlim : s₁.heap.NoLimit) (hg : s₁.gens = #[]) (ha : s₁.heap.get? a = some { cls := .type "list", data := .seq vs.toArray }) (hr : Room k callerA)
    (F : ∀ base : Heap, K.In base → base.Ns mainGlobals mg → FnG P w K mg base CX k fa fd [x] sp)
    (hbind : ∀ (s : Shared) (u : Value), BindsTo s fd ⟨[u], []⟩ [(x, u)]) (hCX : ∀ H e s', CX [] H s₁ (fun _ _ _ => False) e s' → False)
    (H : Hp) (hO : Only H) (hsp : sp [.ref a] H (fun v _ => v = .bl true) fun _ _ _ => False) (hok : HOk P w H s₁.heap) (hA : ∀ b, H b ≠ none → b = a) (hK : H a ≠ none → K.lookup a = none) :
    codeAny (model P w) callerA (.call (.ref fa) ⟨[.ref a], []⟩)
      (fun r s' => r = .ok (.ret (.bool true)) ∧ OldK s₁.heap s'.heap ∧ s'.os = s₁.os ∧ AllBare s'.gens) s₁ := by
  have off : ∀ {b : Addr} {o : Obj} {es : Array DictEntry} {ep : Nat}, s₁.heap.get? b = some o → o.data = .dict es ep → H b = none := by
    intro b o es ep e d
    apply Classical.byContradiction
    intro nb
    have eb := hA b nb
    subst eb
    rw [ha] at e
    have eo := Option.some.inj e
    subst eo
    cases (show Data.seq vs.toArray _ = Data.dict es ep from d)
  have nsB : ∀ {b : Addr} {m : Str → Option Value}, s₁.heap.Ns b m → (hidT s₁.heap H).Ns b m := by
    rintro b m ⟨o, es, ep, e, d, r⟩
    exact ⟨o, es, ep, hidT_get e (off e d), d, r⟩
  have inB : K.In (hidT s₁.heap H) := by
    intro b o e
    refine hidT_get (KX b o e) ?_
    apply Classical.byContradiction
    intro nb
    have eb := hA b nb
    subst eb
    rw [hK nb] at e
    cases e
  obtain ⟨mc, l1, l2⟩ := hlim
  have M : Mod K mg (hidT s₁.heap H) := ⟨inB, nsB hns, ⟨mb, nsB hb, hbb⟩, ⟨mc, nsB l1, l2⟩⟩
  have e0 : Env0 P w K mg (hidT s₁.heap H) callerA [] s₁ H :=
    ⟨rfl, M, fun b o e => of_hidT e, Nat.le_of_eq (hidT_size _ _), trivial, fun b hb => (nomatch (show b ∈ ([] : List Addr) from hb)), hok, .of_eq hg⟩
  have run := (F _ inB (nsB hns)).go callerA [] s₁ H ⟨[.ref a], []⟩ [.ref a] [.ref a] _ _ hr rfl e0 (hbind s₁ (.ref a)) (.cons rfl .nil) hsp
  apply codeAny_mono run
  intro r s' h
  rcases r with e | fl
  · exact (hCX H e s' h).elim
  · rcases fl with _ | _ | _ | u
    all_goals first
      | exact (show False from h).elim
      | skip
    obtain ⟨v, H', os, bare, un, hok', r', q⟩ := h
    cases (show v = .bl true from q)
    cases (show u = Value.bool true from r')
    refine ⟨rfl, OldK.of_keep ?_, os, bare⟩
    intro b o e
    rcases hO b with z | ⟨ob, xs, z⟩
    · exact un.keep b o e z (fun y => (nomatch (show b ∈ ([] : List Addr) from y))) (fun y => (nomatch y))
    · have e1 := (hok b _ z).1
      have e2 := (hok' b _ (un.frzs b ob _ z)).1
      rw [e] at e1
      rw [Option.some.inj e1]
      exact e2
theorem law_callG (KX : K.In s₁.heap) (hns : s₁.heap.Ns mainGlobals mg) (hb : s₁.heap.Ns builtinsNs mb) (hbb : ∀ x : Str, x ≠ "__name__" → mb x = bootBuiltins x)
    (hlim : s₁.heap.NoLimit) (hg : s₁.gens = #[]) (ha : s₁.heap.get? a = some { cls := .type "list", data := .seq vs.toArray }) (hi : IntsAre vs ns) (hl : ns.length ≤ sizeLine) (hr : Room k callerA)
    (F : ∀ base : Heap, K.In base → base.Ns mainGlobals mg → FnG P w K mg base CX k fa fd [x] sp)
    (hbind : ∀ (s : Shared) (u : Value), BindsTo s fd ⟨[u], []⟩ [(x, u)])
    (hsp : ∀ H : Hp, Only H → SqL K H a (ns.map V.int) → sp [.ref a] H (fun v _ => v = .bl true) fun _ _ _ => False) (hCX : ∀ H e s', CX [] H s₁ (fun _ _ _ => False) e s' → False) :
    codeAny (model P w) callerA (.call (.ref fa) ⟨[.ref a], []⟩)
      (fun r s' => r = .ok (.ret (.bool true)) ∧ OldK s₁.heap s'.heap ∧ s'.os = s₁.os ∧ AllBare s'.gens) s₁ := by
  have rv := vals_ints hi
  have lv := hi.length
  cases hk : K.lookup a with
  | some o =>
    have e := KX a o hk
    rw [ha] at e
    have eo := (Option.some.inj e).symm
    subst eo
    have only : Only (fun _ => none) := fun _ => .inl rfl
    have sq : SqL K (fun _ => none) a (ns.map V.int) := .inr ⟨_, vs.toArray, _, hk, rfl, rfl, rfl, by rw [List.size_toArray, lv]; exact hl, by simpa using rv⟩
    exact law_core KX hns hb hbb hlim hg ha hr F hbind hCX (fun _ => none) only (hsp _ only sq) (fun b u z => (nomatch (show (none : Option HO) = some u from z))) (fun b z => (z rfl).elim) (fun z => (z rfl).elim)
  | none =>
    let H0 : Hp := upd (fun _ => none) a (.frz { cls := .type "list", data := .seq vs.toArray } (.lst (ns.map V.int)))
    have at_a : H0 a = some (.frz { cls := .type "list", data := .seq vs.toArray } (.lst (ns.map V.int))) := upd_same
    have off : ∀ b, b ≠ a → H0 b = none := fun b n => upd_ne n
    have only : Only H0 := by
      intro b
      by_cases hb : b = a
      · subst hb
        exact .inr ⟨_, _, at_a⟩
      · exact .inl (off b hb)
    refine law_core KX hns hb hbb hlim hg ha hr F hbind hCX H0 only (hsp _ only (.inl (.inr ⟨_, at_a⟩))) ?_ ?_ (fun _ => hk)
    · intro b u z
      by_cases hb : b = a
      · subst hb
        rw [at_a] at z
        have ez := (Option.some.inj z).symm
        subst ez
        exact ⟨ha, by rw [List.length_map]; exact hl, vs, _, rv, ha⟩
      · rw [off b hb] at z
        cases z
    · intro b z
      apply Classical.byContradiction
      intro hb
      exact z (off b hb)
end
theorem walk_ofG {l : PySem.W.OpenLaw} {n k : Nat} {q : Program} {loose : List Str} {XP : (Str → Option Value) → Heap → Prop} {YP : World → Heap → Prop} {d : DefRec} {K : Params → PySem.W.Frag} {CX : World → CXT} {sp : World → Sp} {x : Str}
    (hn : l.most = some n) (hn2 : n ≤ sizeLine) (hdf : d.params.defaults = []) (hr : Room k callerA) (hY : ∀ (w : World) (h : Heap), YP w h → (K w.params).In h) (F : ∀ (w : World) (mg : Str → Option Value) (fa : Addr) (h : Heap), (K w.params).In h → h.Ns mainGlobals mg → mg d.name = some (.ref fa) → ∃ fd : FuncData, (∀ (s : Shared) (u : Value), BindsTo s fd ⟨[u], []⟩ [(x, u)]) ∧ ∀ base : Heap, (K w.params).In base → base.Ns mainGlobals mg → FnG l.prog w (K w.params) mg base (CX w) k fa fd [x] (sp w)) (hsp : ∀ (w : World) (H : Hp) (a : Addr) (ns : List Int), ns.length ≤ n → Only H → SqL (K w.params) H a (ns.map V.int) → sp w [.ref a] H (fun v _ => v = .bl true) fun _ _ _ => False) (hCX : ∀ (w : World) (H : Hp) (s : Shared) (e : Value) (s' : Shared), CX w [] H s (fun _ _ _ => False) e s' → False) : PySem.W.WalkO q loose XP YP l.row.toRowW d [] (fun f vs => PySem.call f vs) := by
  apply Att.attach_call hn hdf
  intro w s₀ s₁ mg mb fa o pm cd doc a vs ns G Y ho hd hcd hmg hobj hints hlen hg
  obtain ⟨fd, hb, hF⟩ := F w mg fa _ (hY w _ Y) G.T.g hmg
  exact law_callG (hY w _ Y) G.T.g G.T.b G.T.builtins G.T.nolimit hg hobj hints (Nat.le_trans hlen hn2) hr hF hb (fun H hO hS => hsp w H a ns hlen hO hS) fun H e s' => hCX w H s₁ e s'
end OC
set_option Elab.async false
set_option linter.all false
set_option maxRecDepth 100000
set_option maxHeartbeats 2000000
/-! t[::-1] of a tuple -/
set_option Elab.async false
set_option linter.all false
set_option maxRecDepth 100000
set_option maxHeartbeats 2000000
/-! repr of things, where no repr is under way -/
namespace OC
open PySem PySem.Spec PyProof.Rows L2
mutual
def lstless : PyData → Bool
  | .none => true | .bool _ => true | .int _ => true | .str _ => true | .list _ => false | .tuple ds => lstlessAll ds | .dict _ => true
def lstlessAll : List PyData → Bool
  | [] => true
  | d :: ds => lstless d && lstlessAll ds
end
end OC
set_option Elab.async false
set_option linter.all false
set_option maxRecDepth 100000
set_option maxHeartbeats 2000000
/-! xs == [], xs != [], whatever xs holds -/
namespace OC
open PySem PySem.Spec PyProof.Rows L2
def rEqNil : R2 := fun x y H Q => ∃ l b xs, x = .ref l ∧ y = .ref b ∧ H l = some (.lst xs) ∧ H b = some (.lst []) ∧ Q (.bl xs.isEmpty) H
def rNeNil : R2 := fun x y H Q => ∃ l b xs, x = .ref l ∧ y = .ref b ∧ H l = some (.lst xs) ∧ H b = some (.lst []) ∧ Q (.bl (!xs.isEmpty)) H
theorem shaped_nil : SeqAt.shaped (.list []) = true := shaped_ints []
theorem op_eqNil {X : Cx} (hu : X.A.units + 64 < cLine) : OpR X (compareOp .Eq) rEqNil := by
  intro pins s σ H x y v u Q I rx ry h
  obtain ⟨l, b, xs, ex, ey, hl, hb, q⟩ := h
  cases xs with
  | nil =>
    subst ex ey
    exact op_eqD hu pins s σ H _ _ v u Q I rx ry ⟨.list [], .list [], .lst (.inl (.inl hl)) .nil, .lst (.inl (.inl hb)) .nil, shaped_nil, shaped_nil, q⟩
  | cons z r =>
    subst ex ey
    cases rx
    cases ry
    obtain ⟨its, r1, p1, _⟩ := I.list (.inl (.inl hl))
    obtain ⟨its2, r2, p2, _⟩ := I.list (.inl (.inl hb))
    have l1 := r1.length
    have l2 := r2.length
    refine SeqAt.eq_list_lengthsAt p1.isList p2.isList ?_ (by omega) ⟨.bl false, H, I, rfl, q⟩
    rw [List.size_toArray, List.size_toArray, ← l1, ← l2]
    rfl
theorem op_neNil {X : Cx} (hu : X.A.units + 64 < cLine) : OpR X (compareOp .NotEq) rNeNil := by
  intro pins s σ H x y v u Q I rx ry h
  obtain ⟨l, b, xs, ex, ey, hl, hb, q⟩ := h
  cases xs with
  | nil =>
    subst ex ey
    exact op_neD hu pins s σ H _ _ v u Q I rx ry ⟨.list [], .list [], .lst (.inl (.inl hl)) .nil, .lst (.inl (.inl hb)) .nil, shaped_nil, shaped_nil, q⟩
  | cons z r =>
    subst ex ey
    cases rx
    cases ry
    obtain ⟨its, r1, p1, _⟩ := I.list (.inl (.inl hl))
    obtain ⟨its2, r2, p2, _⟩ := I.list (.inl (.inl hb))
    have l1 := r1.length
    have l2 := r2.length
    have hd : (its.toArray.size != its2.toArray.size) = true := by
      rw [List.size_toArray, List.size_toArray, ← l1, ← l2]
      rfl
    exact SeqAt.RcNeAt.lists_lengths p1.isList p2.isList hd (by omega) X.prog X.w X.xe _ ⟨.bl true, H, I, rfl, q⟩
end OC
set_option Elab.async false
set_option linter.all false
set_option maxRecDepth 100000
set_option maxHeartbeats 1000000
/-! things as data: what repr and the judges ask of them -/
namespace OC
open PySem PySem.Spec PyProof.Rows L2
/-- nothing is bad -/
abbrev NB : Addr → Prop := fun _ => False
/-- fit for repr, with bounds -/
structure FitB (B k : Nat) (d : PyData) : Prop where
  len : d.shown.length ≤ B
  sh : d.showable = true
  dp : d.depth ≤ k
  ok : d.hasDict = true → lstless d = true
theorem FitB.mono {B B' k k' : Nat} {d : PyData} (h : FitB B k d) (hB : B ≤ B') (hk : k ≤ k') : FitB B' k' d := ⟨Nat.le_trans h.len hB, h.sh, Nat.le_trans h.dp hk, h.ok⟩
/-- a row of rests, by data -/
def restD (p : Int) : PyData → Bool
  | .int i => decide (0 ≤ i) && decide (i < p)
  | _ => false
def isRowD (p n : Int) : PyData → Bool
  | .tuple ds => decide ((ds.length : Int) = n) && ds.all (restD p)
  | _ => false
/-- a tuple's length is within bounds -/
def lenOk : PyData → Prop
  | .tuple ds => ds.length ≤ 1000
  | _ => True
theorem row_rep {K : PySem.W.Frag} {H : Hp} {bad : Addr → Prop} {a : Addr} {r : List Int} (h : SqT K H a (r.map V.int)) : Rep K H bad (.ref a) (rowD r) := .tup h (repAll_ints r)
end OC
set_option Elab.async false
set_option linter.all false
set_option maxRecDepth 100000
set_option maxHeartbeats 1000000
/-! slices and sums of tuples, whichever tuple is told -/
namespace OC
open PySem PySem.Spec PyProof.Rows L2
theorem cut_whole {xs : List V} {lo hi : Option Int} (h : HT.sIx xs.length 0 lo = 0 ∧ HT.sIx xs.length xs.length hi = xs.length) : cutV xs lo hi = xs := by
  unfold cutV
  rw [h.1, h.2, List.drop_zero, Nat.sub_zero, List.take_length]
def rSlB (K : PySem.W.Frag) : V → Option Int → Option Int → Hp → VK → Prop := fun x lo hi H Q => ∃ a xs, x = .ref a ∧ SqT K H a xs ∧ ∀ p H', Same H H' → SqT K H' p (cutV xs lo hi) → Q (.ref p) H'
theorem sl_tupB {X : Cx} : SlR X (rSlB X.K) := by
  intro pins s σ H x v vl vu lo hi sl Q I rx hs pl pu h
  obtain ⟨a, xs, ex, hx, q⟩ := h
  exact sl_tupA pins s σ H x v vl vu lo hi sl Q I rx hs pl pu ⟨a, xs, ex, hx, fun hw => q a H (Same.refl H) (by rw [cut_whole hw]; exact hx), fun _ p np => q p _ (same_upd np) (.inl (.inl upd_same))⟩
def rCatB (K : PySem.W.Frag) : R2 := fun x y H Q => ∃ a b xs ys, x = .ref a ∧ y = .ref b ∧ SqT K H a xs ∧ SqT K H b ys ∧ xs.length + ys.length ≤ sizeLine ∧ ∀ p H', Same H H' → SqT K H' p (xs ++ ys) → Q (.ref p) H'
theorem op_catB {X : Cx} : OpR X (binaryOp .Add) (rCatB X.K) := by
  intro pins s σ H x y v u Q I rx ry h
  obtain ⟨a, b, xs, ys, ex, ey, hx, hy, hz, q⟩ := h
  refine op_catA pins s σ H x y v u Q I rx ry ⟨a, b, xs, ys, ex, ey, hx, hy, hz, fun z => q b H (Same.refl H) ?_, fun _ z => q a H (Same.refl H) ?_, fun _ _ p np => q p _ (same_upd np) (.inl (.inl upd_same))⟩
  · rw [z, List.nil_append]
    exact hy
  · rw [z, List.append_nil]
    exact hx
theorem cut_from {xs : List V} {i : Int} (h0 : 0 ≤ i) (h1 : i ≤ xs.length) : cutV xs (some i) none = xs.drop i.toNat := by
  unfold cutV
  have e : HT.sIx xs.length 0 (some i) = min i.toNat xs.length := by
    have := HT.sIx_nat xs.length 0 i.toNat
    rw [show ((i.toNat : Nat) : Int) = i by omega] at this
    exact this
  rw [e, HT.sIx_none, show min i.toNat xs.length = i.toNat by omega]
  exact List.take_of_length_le (by rw [List.length_drop]; omega)
mutual
theorem rep_weak {K : PySem.W.Frag} {b1 b2 : Addr → Prop} {H : Hp} (e : ∀ a, b2 a → b1 a) : ∀ (d : PyData) (v : V), Rep K H b1 v d → Rep K H b2 v d
  | .none, _, h => by cases h; exact .non
  | .bool b, _, h => by cases h; exact .bl b
  | .int i, _, h => by cases h; exact .int i
  | .str x, _, h => by cases h; exact .str x
  | .list ds, _, h => by
    cases h with
    | lst hs hb ha => exact .lst hs (fun z => hb (e _ z)) (repAll_weak e ds _ ha)
  | .tuple ds, _, h => by
    cases h with
    | tup hs ha => exact .tup hs (repAll_weak e ds _ ha)
  | .dict _, _, h => by
    cases h with
    | dct hs hf => exact .dct hs hf
theorem repAll_weak {K : PySem.W.Frag} {b1 b2 : Addr → Prop} {H : Hp} (e : ∀ a, b2 a → b1 a) : ∀ (ds : List PyData) (vs : List V), RepAll K H b1 vs ds → RepAll K H b2 vs ds
  | [], _, h => by cases h; exact .nil
  | d :: ds, _, h => by
    cases h with
    | cons h1 h2 => exact .cons (rep_weak e d _ h1) (repAll_weak e ds _ h2)
end
end OC
set_option Elab.async false
set_option linter.all false
set_option maxRecDepth 100000
set_option maxHeartbeats 1000000
/-! comprehensions over lists and tuples of things -/
namespace OC
open PySem PySem.Spec PyProof.Rows L2
mutual
theorem rep_fresh {K : PySem.W.Frag} {bad : Addr → Prop} {H : Hp} {B : Addr} (n : H B = none) : ∀ (d : PyData) (v : V), Rep K H bad v d → Rep K H (fun a => bad a ∨ a = B) v d
  | .none, _, h => by cases h; exact .non
  | .bool b, _, h => by cases h; exact .bl b
  | .int i, _, h => by cases h; exact .int i
  | .str x, _, h => by cases h; exact .str x
  | .list ds, _, h => by
    cases h with
    | lst hs hb ha => exact .lst hs (fun z => z.elim hb (fun e => by subst e; rw [n] at hs; cases hs)) (repAll_fresh n ds _ ha)
  | .tuple ds, _, h => by
    cases h with
    | tup hs ha => exact .tup hs (repAll_fresh n ds _ ha)
  | .dict _, _, h => by
    cases h with
    | dct hs hf => exact .dct hs hf
theorem repAll_fresh {K : PySem.W.Frag} {bad : Addr → Prop} {H : Hp} {B : Addr} (n : H B = none) : ∀ (ds : List PyData) (vs : List V), RepAll K H bad vs ds → RepAll K H (fun a => bad a ∨ a = B) vs ds
  | [], _, h => by cases h; exact .nil
  | d :: ds, _, h => by
    cases h with
    | cons h1 h2 => exact .cons (rep_fresh n d _ h1) (repAll_fresh n ds _ h2)
end
theorem upd_stays {bad : Addr → Prop} {H H' : Hp} {D : Addr} {xs ys : List V} (s : Stays bad H H') (h : H' D = some (.lst xs)) (bD : bad D) : Stays bad H (upd H' D (.lst ys)) := by
  refine ⟨s.t.mut h, fun a zs q => ?_, fun a zs q n => ?_⟩
  · have := s.d a zs q
    rw [upd_ne (fun z => by subst z; rw [h] at this; cases this)]
    exact this
  · rw [upd_ne (fun z => n (by rw [z]; exact bD))]
    exact s.l a zs q n
theorem Same.some {H H' : Hp} (s : Same H H') {a : Addr} (h : H a ≠ none) : H' a ≠ none := by
  rcases hq : H a with _ | o
  · exact absurd hq h
  · rw [s a o hq]
    exact fun z => nomatch z
/-- what is new at D or behind H -/
abbrev NewBy (H : Hp) (D : Addr) : Addr → Prop := fun a => H a ≠ none ∨ a = D
/-- a comprehension [f(x) for x in xs]: each thing to a thing, new ones alone -/
theorem lc_mapR {K : PySem.W.Frag} {J : It} {G : Hp → Prop} {vs : List V} {ds : List PyData} {σ : L2.St} {H : Hp} {Qd : Addr → Hp → Prop} {i : Nat} {sl : List Nat} {te : TE} (F : PyData → PyData)
    (w : Walk J vs.length G (YAt vs)) (hG : ∀ H', Same H H' → G H') (hD : RepAll K H NB vs ds) (hz : vs.length ≤ 1000) (hw : ∀ x : Option V, wipe ((wipe σ sl).set i x) sl = wipe σ sl)
    (hte : ∀ (v : V) (d : PyData) (H' : Hp) (Q' : VK), d ∈ ds → Rep K H' NB v d → Same H H' → (∀ v' H'', Same H' H'' → Rep K H'' (fun a => H' a ≠ none) v' (F d) → Q' v' H'') → te ((wipe σ sl).set i (some v)) H' Q')
    (hd : ∀ D H' ws, Same H H' → H D = none → H' D = some (.lst ws) → RepAll K H' (NewBy H D) ws (ds.map F) → Qd D H') :
    LcGoal J (gName i) tYes te sl σ H Qd := by
  intro D nD
  have lv := repAll_len hD
  refine lc_it w (fun k H' => Same H H' ∧ ∃ ws, H' D = some (.lst ws) ∧ ws.length = k ∧ RepAll K H' (NewBy H D) ws ((ds.take k).map F)) ⟨same_mut (Same.refl H) nD, [], upd_same, rfl, .nil⟩ (fun k H' _ hP => hG H' hP.1) (fun k x H1 H2 hk hP hY => ?_) (fun H' hP => ?_)
  · obtain ⟨rfl, e1⟩ := hY
    obtain ⟨sm, ws, eD, lw, rw_⟩ := hP
    obtain ⟨d, g, md, rx⟩ := repAll_get hD e1
    refine ⟨hw _, hte x d _ _ md (rep_stays (Stays.of sm) _ _ rx) sm fun v' H'' s2 rv => ?_⟩
    have eD2 := s2 _ _ eD
    refine ⟨ws, eD2, small1000 (by omega), same_mut (sm.trans s2) nD, ws ++ [v'], upd_same, by rw [List.length_append, lw]; rfl, ?_⟩
    rw [List.take_add_one, g, List.map_append]
    refine repAll_append (repAll_stays (upd_stays (Stays.of s2) eD2 (.inr rfl)) _ _ rw_) (.cons ?_ .nil)
    refine rep_stays (upd_stays (Stays.of (Same.refl H'')) eD2 (.inr rfl)) _ _ (rep_weak (fun a ha => ?_) _ _ rv)
    rcases ha with h | h
    · exact Same.some sm h
    · subst h
      rw [eD]
      exact fun z => nomatch z
  · obtain ⟨sm, ws, eD, lw, rw_⟩ := hP
    rw [List.take_of_length_le (by omega)] at rw_
    exact hd D H' ws sm nD eD rw_
end OC
set_option Elab.async false
set_option linter.all false
set_option maxRecDepth 100000
set_option maxHeartbeats 2000000
/-! enumerate(t) of a tuple, in a for -/
namespace OC
open PySem PySem.Spec PyProof.Rows L2
open Sem (wp)
theorem meets_enum1 {v : Value} {ob : Obj} {G : Heap → Prop} (B : Begins v ob G) : Meets (Builtin.«enumerate.__new__» ⟨[.type "enumerate", v], []⟩) (fun _ R s => G s.heap ∧ R (.ok (.ret (.ref (s.heap.push ob).objs.size))) { s with heap := (s.heap.push ob).push { cls := .type "enumerate", data := .fields #[.none, .bool false, .ref s.heap.objs.size, rawInt 0, .none, .none] } }) :=
  .of_wp fun P w A R s z => by
    obtain ⟨hp, g, d, tk, os⟩ := s
    obtain ⟨z1, z⟩ := z
    have hsub := sub_enumerate
    have q1 : ∀ {A' : Around} {E' : Value → Shared → Prop} {Q' : Value → Shared → Prop}, Q' (.ref hp.objs.size) ⟨hp.push ob, g, d, tk, os⟩ → wpAny (model P w) A' (pyIter v) Q' E' ⟨hp, g, d, tk, os⟩ := fun y => B.iter P w _ _ ⟨hp, g, d, tk, os⟩ _ z1 y
    wp_walk using q1
    refine wpAny_stack_any fun _ => wpAny_pure ?_
    split
    · rename_i c _ _ _ _ _
      cases (c == Value.type "enumerate") <;> (wp_walk using q1; exact ⟨_, rfl, z⟩)
    · wp_walk using q1
      exact ⟨_, rfl, z⟩
section
variable {P : Program} {w : World} {A : Around} {E : Value → Shared → Prop} {s : Shared}
theorem call_enumB {v : Value} {ob : Obj} {G : Heap → Prop} {Q : Value → Shared → Prop} (B : Begins v ob G) (g : G s.heap)
    (q : ∀ h1 : Heap, IsEnum h1 (s.heap.objs.size + 1) s.heap.objs.size 0 .none → h1.get? s.heap.objs.size = some ob → (∀ b o, s.heap.get? b = some o → h1.get? b = some o) → Q (.ref (s.heap.objs.size + 1)) { s with heap := h1 }) : wpAny (model P w) A (call (.type "enumerate") [v]) Q E s := by
  refine callType_new F.called_enumerate (by decide) (F.typeCall_enumerate_1 _) (F.newCall_enumerate_1 _) (fun z => F.args_object_init_2 z _) F.entry_enumerate_new (meets_enum1 B) ⟨g, ?_⟩
  have sz : (s.heap.push ob).objs.size = s.heap.objs.size + 1 := Heap.size_push ..
  show _ ∧ _
  rw [sz]
  have en : IsEnum ((s.heap.push ob).push { cls := .type "enumerate", data := .fields #[.none, .bool false, .ref s.heap.objs.size, rawInt 0, .none, .none] }) (s.heap.objs.size + 1) s.heap.objs.size 0 .none := by
    have z := Heap.get?_push_size (s.heap.push ob) (o := { cls := .type "enumerate", data := .fields #[.none, .bool false, .ref s.heap.objs.size, rawInt 0, .none, .none] }) rfl
    rw [sz] at z
    exact z
  exact ⟨⟨_, en, rfl⟩, q _ en (Heap.get?_push_of_some _ (Heap.get?_push_size _ B.free)) fun b o z => Heap.get?_push_of_some _ (Heap.get?_push_of_some _ z)⟩
end
/-- the tuple at a, each item in a new pair -/
def IteT (K : PySem.W.Frag) (a : Addr) : It :=
  ⟨fun i H => ∃ (xs : List V) (x : V), SqT K H a xs ∧ xs[i]? = some x,
   fun i H v H' => ∃ T x, v = .ref T ∧ H T = none ∧ H' = upd H T (.tup [.int (i : Nat), x]) ∧ ∀ xs, SqT K H a xs → xs[i]? = some x,
   fun i H => ∃ xs : List V, SqT K H a xs ∧ xs.length ≤ i⟩
theorem turn_enumT {P : Program} {w : World} {K : PySem.W.Frag} {elts : List Expr} {kk : Nat} {tp : Pos} (a e it : Addr) :
    Turn P w K (.Tuple elts kk tp) (IteT K a) [e, it] e (fun i h => (∃ old, IsEnum h e it ((i : Nat) : Int) old) ∧ h.IsTupleIter it a i ∧ e ≠ it) where
  mem := by simp
  obj := fun i h st b hb => by
    obtain ⟨⟨old, he⟩, ⟨o, ho, hc, hd⟩, _⟩ := st
    rcases (by simpa using hb : b = e ∨ b = it) with z | z
    · subst z; exact ⟨_, he, fun v y => nomatch y⟩
    · subst z; exact ⟨o, ho, fun v y => by rw [hd] at y; cases y⟩
  keep := fun i h h' st k => by
    obtain ⟨⟨old, he⟩, hi, ne⟩ := st
    exact ⟨⟨old, k e (by simp) _ he⟩, hi.at fun o y => k it (by simp) o y, ne⟩
  item := by
    intro X hP hw hK hc i pins s σ H E I hf st hg
    subst hP hw hK
    obtain ⟨⟨old, he⟩, hit, ne⟩ := st
    obtain ⟨xs, x, hq, hx⟩ := hg
    obtain ⟨its, rv, tp, hz⟩ := I.tuple hq
    obtain ⟨u, hu, ru⟩ := rv.get hx
    have hel : e < s.heap.objs.size := Heap.lt_size he
    have hil : it < s.heap.objs.size := by obtain ⟨_, y, _⟩ := hit; exact Heap.lt_size y
    have ta : s.heap.IsTuple a its.toArray := tp
    have ai : a ≠ it := fun z => by
      obtain ⟨o1, g1, c1, _⟩ := ta
      obtain ⟨o2, g2, c2, _⟩ := hit
      rw [z, g2] at g1
      rw [← Option.some.inj g1, c2] at c1
      exact absurd (Value.type.inj c1) (by decide)
    have ea : e ≠ a := fun z => by
      obtain ⟨o1, g1, c1, _⟩ := ta
      have he' : s.heap.get? e = some _ := he
      rw [z, g1] at he'
      have := Option.some.inj he'
      rw [this] at c1
      exact absurd (Value.type.inj c1) (by decide)
    have hlt : i < its.toArray.size := by
      have := (List.getElem?_eq_some_iff.mp hu).1
      simpa using this
    refine wpAny_pyNext_enum_itemD (Draws.tuple (A := X.A.in1) (I.ok.hd hc) it a ai its.toArray) he ⟨hit, ta⟩ hlt ne (by simp [ne, ea]) fun u' h1 tk hu' ho st1 hT hsz hk => ?_
    have eu : u' = u := by
      have e1 : its.toArray[i]? = some u := by simpa using hu
      rw [e1] at hu'
      exact (Option.some.inj hu').symm
    subst eu
    refine ⟨_, rfl, wpAny_letOwnedTupleGo_enum (s := { s with heap := h1, toks := tk + 1 }) ho fun h2 he' sb => ?_⟩
    have hT2 : h2.get? s.heap.objs.size = some { cls := .type "tuple", data := .seq #[.int i tk, u'] } := (sb.2 _ (Nat.ne_of_gt hel)).trans hT
    have new : ObjOk X.prog X.w (upd H s.heap.objs.size (.tup [.int (i : Nat), x])) h2 s.heap.objs.size (.tup [.int (i : Nat), x]) := ⟨(by decide : 2 ≤ sizeLine), [.int i tk, u'], .cons ⟨_, rfl⟩ (.cons ru .nil), ⟨_, hT2, rfl, _, rfl⟩⟩
    have I1 : Inv X pins σ (upd H s.heap.objs.size (.tup [.int (i : Nat), x])) { s with heap := h2, toks := tk + 1 } :=
      I.turnedNew (t' := tk + 1) (ch := [e, it]) (fun b ob nb y => (sb.2 b (fun z => nb (by simp [z]))).trans (hk b ob (fun z => nb (by simp [z])) (fun z => nb (by simp [z])) y)) hf (Nat.le_refl _) new
    refine ⟨.ref s.heap.objs.size, _, I1, rfl, ⟨_, x, rfl, I.hok.fresh (Nat.le_refl _), rfl, fun ys hy => by rw [I.tuple_inj hy hq]; exact hx⟩, ⟨⟨u', ?_⟩, st1.1.at fun o y => (sb.2 it (Ne.symm ne)).trans y, ne⟩, fun b hb => ?_⟩
    · rw [show ((i + 1 : Nat) : Int) = (i : Int) + 1 from by omega]
      exact he'
    · have lb : b < s.heap.objs.size := by
        rcases (by simpa using hb : b = e ∨ b = it) with z | z
        · exact z ▸ hel
        · exact z ▸ hil
      rw [upd_ne (Nat.ne_of_lt lb)]
      exact (hf b hb).1
  done := by
    intro X hP hw hK hc i pins s σ H E I hf st hg
    subst hP hw hK
    obtain ⟨⟨old, he⟩, hit, ne⟩ := st
    obtain ⟨xs, hq, hx⟩ := hg
    obtain ⟨its, rv, tp, hz⟩ := I.tuple hq
    obtain ⟨f0, f1, f2, f3, f4, f5⟩ := hf it (by simp)
    have ta : s.heap.IsTuple a its.toArray := tp
    have hl := rv.length
    have hh : X.A.in1.handled = none := I.ok.hd hc
    have hT : s.TypeIs (.ref e) "enumerate" := ⟨_, he, rfl⟩
    unfold pyNext
    refine wpAny_bind (wpAny_attempt (wpAny_callSpecial?_slot (name := Str.ofString "__next__") hT F.slot_enumerate_next (wpAny_call_entry F.slot_enumerate_next hT F.entry_enumerate_next ?_ (F.args_enumerate_next_1 _))))
    show wpAny _ _ (field (.ref e) 2 >>= _) _ _ s
    refine wpAny_bind (wpAny_field he rfl (x := .ref it) rfl (wpAny_bind (wpAny_nextOf_tuple_end hh hit ta (by simp; omega) fun h1 x eb hx' => ?_)))
    obtain ⟨o, ho, hcl⟩ := hx'
    refine wpAny_bind (wpAny_isInstance (T := "StopIteration") (b := true) ⟨o, ho, hcl⟩ isSubtype_stop (wpAny_pure ?_))
    exact ⟨rfl, I.turned (t' := s.toks) (fun b o nb y => eb b o nb y) f0 f1 f3 f4 f5⟩
  self := fun A i s Q E st h => by
    obtain ⟨⟨_, he⟩, _⟩ := st
    exact wpAny_pyIter_enum he h
def iEnumT (K : PySem.W.Frag) (ta : TA) : TI := fun σ H R => ta σ H fun vs H1 => ∃ a xs, vs = [.ref a] ∧ SqT K H1 a xs ∧ R (IteT K a) H1
theorem pi_enumT {X : Cx} {e : Expr} {ta : TA} {p pos tpos : Pos} {elts : List Expr} {kk : Nat} (hg : Gl X "enumerate") (hm : X.mg "enumerate" = none) (ha : PA X [e] ta) (hs : starEach [e] X.env = [(false, eval e X.env)] := by rfl) : PI X (.Tuple elts kk tpos) (.Call (.Name "enumerate" p) [e] [] pos) (iEnumT X.K ta) := by
  refine ⟨fun pins s σ H R I h => Call_ (ld_blt I hg hm boot_enumerate (PyProof.Rows.callWith_type1 (thn (ha.run pos pins s σ H _ I h) fun us s1 ⟨vs, H1, I1, r1, q1⟩ => ?_) hs rfl))⟩
  obtain ⟨a, xs, rfl, hq, q⟩ := q1
  cases r1 with
  | cons r rr =>
    cases rr
    cases r
    obtain ⟨its, rv, tp, hz⟩ := I1.tuple hq
    refine call_enumB (begins_tuple a its.toArray) tp fun h1 he hit hk => wpAny_pyIter_enum he ?_
    refine ⟨s1.heap.objs.size + 1, [s1.heap.objs.size + 1, s1.heap.objs.size], _, _, H1, rfl, I1.kept (t' := s1.toks) hk, turn_enumT a (s1.heap.objs.size + 1) s1.heap.objs.size, ⟨⟨.none, he⟩, ⟨_, hit, rfl, rfl⟩, Nat.succ_ne_self _⟩, fun b hb => ?_, q⟩
    have hle : s1.heap.objs.size ≤ b := by
      rcases (by simpa using hb : b = s1.heap.objs.size + 1 ∨ b = s1.heap.objs.size) with z | z
      · rw [z]; exact Nat.le_add_right _ _
      · rw [z]; exact Nat.le_refl _
    exact I1.fpOk hle (I1.hok.fresh hle)
theorem walk_enumT {K : PySem.W.Frag} {a : Addr} {xs : List V} : Walk (IteT K a) xs.length (fun H => SqT K H a xs) (YPair (fun i => some (.int (i : Nat))) (fun i => xs[i]?)) where
  goes i H hi q := ⟨xs, xs[i], q, List.getElem?_eq_getElem hi⟩
  stops H q := ⟨xs, q, Nat.le_refl _⟩
  yields i H v H' _ q y := by
    obtain ⟨T, x, ev, nT, eH, gx⟩ := y
    exact ⟨T, _, x, ev, nT, eH, rfl, gx xs q⟩
end OC
set_option Elab.async false
set_option linter.all false
set_option maxRecDepth 100000
set_option maxHeartbeats 2000000
/-! sorted(xs, reverse=True) of tuples of as many rests each -/
namespace OC
open PySem PySem.Spec PyProof.Rows L2 SrtO
section
variable {P : Program} {w : World} {A : Around} {s : Shared}
def ltT (h : Heap) (B : Int) : Value → Value → Bool := fun v u => decide (TS.code B (TS.intsOf h v) < TS.code B (TS.intsOf h u))
theorem swo_T (h : Heap) (B : Int) : Swo (ltT h B) where
  asym x y e := by
    have := of_decide_eq_true e
    exact decide_eq_false (by omega)
  tr x y z e1 e2 := by
    have h1 := of_decide_eq_false e1
    have h2 := of_decide_eq_false e2
    exact decide_eq_false (by omega)
theorem tups_sortable {h0 : Heap} {a : Addr} {vs : List Value} {d : Nat} {B : Int} (hd : 1 ≤ d) (h2 : 2 ≤ vs.length) (x : TS.TupsOk s.heap d B vs) (hi : ∀ v ∈ vs, TS.intsOf h0 v = TS.intsOf s.heap v) (ha : ∀ o, s.heap.get? a = some o → o.cls ≠ .type "tuple") : SortableO P w A s a vs (ltT h0 B) := by
  intro h' keep
  have x' : TS.TupsOk h' d B vs := x.keeps fun b o e c => keep b o (fun z => by subst z; exact ha o e c) e
  obtain ⟨fs, k, hl, hf⟩ := TS.firsts_of hd vs x'
  refine ⟨tuples' true, fun Q E hq => ?_, fun p q hp hq => ?_⟩
  · refine PySem.W.kat_kind (T := Value.type "int") k (by omega) (fun f hm => ?_) rfl ?_
    · obtain ⟨n, t, rfl⟩ := hf f hm
      exact PySem.W.Looks.of_pure rfl
    · rw [show (Value.type "int" != Value.type "tuple") = true from by first | decide +kernel | rfl]
      exact hq
  · obtain ⟨ns, tp, lp, bp⟩ := x _ hp
    obtain ⟨ms, tq, lq, bq⟩ := x _ hq
    have kk : ∀ b o, s.heap.get? b = some o → o.cls = .type "tuple" → h'.get? b = some o := fun b o e c => keep b o (fun z => by subst z; exact ha o e c) e
    have e1 : TS.intsOf h0 p.1 = ns := by rw [hi _ hp]; exact tp.ints
    have e2 : TS.intsOf h0 q.1 = ms := by rw [hi _ hq]; exact tq.ints
    have tp' := tp.keeps kk
    have tq' := tq.keeps kk
    show wpAny (model P w) A (keyLt' (tuples' true) p.1 q.1) (fun r s' => s' = { s with heap := h' } ∧ r = ltT h0 B p.1 q.1) (fun _ _ => False) { s with heap := h' }
    unfold ltT
    rw [e1, e2]
    obtain ⟨a1, xs, q1, ⟨o, ho, hc, n, hdt⟩, i⟩ := tp'
    obtain ⟨a2, ys, q2, ⟨o', ho', hc', n', hdt'⟩, i'⟩ := tq'
    rw [q1, q2]
    refine PySem.W.kat_lt (s := { s with heap := h' }) ho hdt ho' hdt' ?_
    have sz : decide (xs.size < ys.size) = false := by
      have l1 := i.length
      have l2 := i'.length
      rw [Array.length_toList] at l1 l2
      exact decide_eq_false (by omega)
    rw [sz]
    exact TS.lex_ints 0 i i' (by omega) bp bq ⟨rfl, rfl⟩
end
def rSortTR (K : PySem.W.Frag) : List V → List V → Hp → VK → Prop := fun vs zs H Q => ∃ (a : Addr) (xs : List V) (d : Nat) (B : Int), vs = [V.ref a] ∧ zs = [.bl true] ∧ 1 ≤ d ∧ SqL K H a xs ∧ (∀ x ∈ xs, ∃ ns, TupI K H x ns ∧ ns.length = d ∧ TS.Bd B ns) ∧
  ∀ (ys : List V) (p : Addr), ys.Perm xs → ys.Pairwise (fun x y => ∀ n m, TupI K H x n → TupI K H y m → TS.code B m ≤ TS.code B n) → H p = none → Q (.ref p) (upd H p (.lst ys))
theorem cr_sortTR {X : Cx} : CallRK X (.builtin "sorted") [Str.ofString "reverse"] (rSortTR X.K) := by
  intro pins s σ H vs zs us ws Q I r rz h
  obtain ⟨a, xs, d, B, rfl, rfl, hd, hs, hx, q⟩ := h
  rw [Vals.ref1 r]
  obtain ⟨w1, rfl, e1⟩ := vals1 rz
  obtain rfl : w1 = Value.bool true := e1
  obtain ⟨its, rv, hl, hz⟩ := I.list hs
  obtain ⟨e1, e2⟩ := bkV_refs rv fun x m => by
    obtain ⟨ns, ⟨t, e, _⟩, _⟩ := hx x m
    exact ⟨t, e⟩
  have tups : TS.TupsOk s.heap d B its := fun v hv => by
    obtain ⟨t, rfl⟩ := e2 v hv
    have hm : V.ref t ∈ xs := by rw [e1]; exact List.mem_map.mpr ⟨_, hv, rfl⟩
    obtain ⟨ns, ⟨t', e, ht⟩, hn, hb⟩ := hx _ hm
    cases e
    exact ⟨ns, tupI_raw I ht, hn, hb⟩
  show wpAny (model X.prog X.w) X.A (call (.builtin "sorted") [.ref a] [(Str.ofString "reverse", .bool true)]) _ _ _
  refine SrtR.sorted_ordK (b := true) (ltv := ltT s.heap B) (fun _ => rfl) (PyProof.Rows.args_sorted_rev _ _) (fun _ => PyProof.Rows.args_list_sort_rev _ _) (swo_T s.heap B) hl.isList (by rw [← rv.length]; exact hz) (fun h2 h1 a' ha' kk => ?_) fun out o1 o2 => ?_
  · have keep : ∀ b o, s.heap.get? b = some o → o.cls = .type "tuple" → h1.get? b = some o := fun b o e _ => (kk b o e).2
    refine tups_sortable (s := { s with heap := h1 }) hd h2 (tups.keeps keep) (fun v hv => ?_) fun o e => ?_
    · obtain ⟨ns, tp, _⟩ := tups v hv
      rw [tp.ints, (tp.keeps keep).ints]
    · have e' : some o = some (seqObj "list" its.toArray 0) := e.symm.trans ha'
      cases e'
      intro c
      exact absurd (Value.type.inj c) (by decide)
  · obtain ⟨ep, he'⟩ := PyProof.Rows.sortedAll_at s.heap its out.toArray.reverse
    have pm : out.Perm its := o2.perm.trans (List.reverse_perm _)
    have h3 : ∀ u ∈ out.reverse, ∃ a, u = Value.ref a := fun u hu => e2 u (pm.mem_iff.mp (List.mem_reverse.mp hu))
    have hp : (out.reverse.map bkV).Perm xs := by
      rw [e1]
      exact ((List.reverse_perm out).trans pm).map bkV
    have hlen : (out.reverse.map bkV).length ≤ sizeLine := by
      rw [hp.length_eq]
      exact hz
    have ea : out.reverse.toArray = out.toArray.reverse := by
      apply Array.ext'
      rw [Array.toList_reverse]
    refine ⟨.ref _, upd H (s.heap.objs.size + 1) (.lst (out.reverse.map bkV)), I.laid (t' := s.toks) (fun _ _ => PyProof.Rows.sortedAll_old) (Nat.le_succ _) ⟨hlen, out.reverse, ep, bkV_vals h3, by rw [ea]; exact he'⟩, rfl, q _ _ hp ?_ (I.hok.fresh (Nat.le_succ _))⟩
    rw [List.pairwise_map, List.pairwise_reverse]
    refine o1.imp fun {u v} huv n m hn hm => ?_
    obtain ⟨t, et, ht⟩ := hn
    obtain ⟨t', et', ht'⟩ := hm
    have i1 : TS.intsOf s.heap v = n := by
      rw [bkV_ref et]
      exact (tupI_raw I ht).ints
    have i2 : TS.intsOf s.heap u = m := by
      rw [bkV_ref et']
      exact (tupI_raw I ht').ints
    have z := of_decide_eq_false huv
    rw [i1, i2] at z
    omega
end OC
/-! Linear algebra over Fin p, vectors as functions: spans, plain forms, their uniqueness. Core Lean alone. -/
namespace Lin
set_option linter.all false
section
variable {p : Nat} [NeZero p]
abbrev Vec (p : Nat) := Nat → Fin p
def zeroV : Vec p := fun _ => 0
def addV (x y : Vec p) : Vec p := fun i => x i + y i
def mulV (c : Fin p) (x : Vec p) : Vec p := fun i => c * x i
/-- closed under sums and multiples -/
structure Sub (S : Vec p → Prop) : Prop where
  zero : S zeroV
  add : ∀ {x y}, S x → S y → S (addV x y)
  mul : ∀ (c : Fin p) {x}, S x → S (mulV c x)
def lin : List (Fin p) → List (Vec p) → Vec p
  | f :: fs, v :: vs => addV (mulV f v) (lin fs vs)
  | _, _ => zeroV
def Spn (vs : List (Vec p)) (x : Vec p) : Prop := ∃ fs : List (Fin p), x = lin fs vs
theorem zero_add (x : Vec p) : addV zeroV x = x := by
  funext i
  show (0 : Fin p) + x i = x i
  grind
theorem lin_nil (vs : List (Vec p)) : lin [] vs = zeroV := by cases vs <;> rfl
theorem lin_nil' (fs : List (Fin p)) : lin fs ([] : List (Vec p)) = zeroV := by cases fs <;> rfl
def addF : List (Fin p) → List (Fin p) → List (Fin p)
  | f :: fs, g :: gs => (f + g) :: addF fs gs
  | [], gs => gs
  | fs, [] => fs
theorem lin_add : ∀ (vs : List (Vec p)) (fs gs : List (Fin p)), addV (lin fs vs) (lin gs vs) = lin (addF fs gs) vs
  | [], fs, gs => by
    rw [lin_nil', lin_nil', lin_nil', zero_add]
  | v :: vs, [], gs => by
    rw [lin_nil, zero_add]
    simp only [addF]
  | v :: vs, f :: fs, [] => by
    rw [lin_nil]
    simp only [addF]
    funext i
    show lin (f :: fs) (v :: vs) i + (0 : Fin p) = lin (f :: fs) (v :: vs) i
    grind
  | v :: vs, f :: fs, g :: gs => by
    have ih := lin_add vs fs gs
    simp only [addF, lin]
    rw [← ih]
    funext i
    show f * v i + lin fs vs i + (g * v i + lin gs vs i) = (f + g) * v i + (lin fs vs i + lin gs vs i)
    grind
theorem lin_mul (c : Fin p) : ∀ (vs : List (Vec p)) (fs : List (Fin p)), mulV c (lin fs vs) = lin (fs.map (c * ·)) vs
  | [], fs => by
    rw [lin_nil', lin_nil']
    funext i
    show c * (0 : Fin p) = 0
    grind
  | v :: vs, [] => by
    rw [List.map_nil, lin_nil]
    funext i
    show c * (0 : Fin p) = 0
    grind
  | v :: vs, f :: fs => by
    have ih := lin_mul c vs fs
    rw [List.map_cons]
    simp only [lin]
    rw [← ih]
    funext i
    show c * (f * v i + lin fs vs i) = c * f * v i + c * lin fs vs i
    grind
theorem spn_sub (vs : List (Vec p)) : Sub (Spn vs) where
  zero := ⟨[], (lin_nil vs).symm⟩
  add := by
    rintro x y ⟨fs, rfl⟩ ⟨gs, rfl⟩
    exact ⟨_, lin_add vs fs gs⟩
  mul := by
    rintro c x ⟨fs, rfl⟩
    exact ⟨_, lin_mul c vs fs⟩
theorem spn_tail {v : Vec p} {vs : List (Vec p)} {x : Vec p} (h : Spn vs x) : Spn (v :: vs) x := by
  obtain ⟨fs, rfl⟩ := h
  refine ⟨0 :: fs, ?_⟩
  funext i
  show lin fs vs i = 0 * v i + lin fs vs i
  grind
theorem spn_mem : ∀ {vs : List (Vec p)} {v : Vec p}, v ∈ vs → Spn vs v
  | w :: vs, v, h => by
    rcases List.mem_cons.mp h with rfl | h
    · refine ⟨[1], ?_⟩
      funext i
      show v i = 1 * v i + lin [] vs i
      rw [lin_nil]
      show v i = 1 * v i + (0 : Fin p)
      grind
    · exact spn_tail (spn_mem h)
theorem spn_le {S : Vec p → Prop} (hS : Sub S) : ∀ {vs : List (Vec p)}, (∀ v ∈ vs, S v) → ∀ {x}, Spn vs x → S x
  | [], _, x, ⟨fs, e⟩ => by
    rw [e, lin_nil']
    exact hS.zero
  | v :: vs, h, x, ⟨[], e⟩ => by
    rw [e, lin_nil]
    exact hS.zero
  | v :: vs, h, x, ⟨f :: fs, e⟩ => by
    rw [e]
    exact hS.add (hS.mul f (h v List.mem_cons_self)) (spn_le hS (fun w hw => h w (List.mem_cons_of_mem _ hw)) ⟨fs, rfl⟩)
theorem spn_sub_of {vs ws : List (Vec p)} (h : ∀ v ∈ vs, Spn ws v) {x : Vec p} (hx : Spn vs x) : Spn ws x := spn_le (spn_sub ws) h hx
theorem Sub.less {S : Vec p → Prop} (hS : Sub S) {x y : Vec p} (c : Fin p) (hx : S x) (hy : S y) : S (fun i => x i - c * y i) := by
  have h := hS.add hx (hS.mul (-c) hy)
  have e : addV x (mulV (-c) y) = fun i => x i - c * y i := by
    funext i
    show x i + -c * y i = x i - c * y i
    grind
  rw [e] at h
  exact h
/-! ### plain forms: pairs of a first place and a row -/
structure PF (n : Nat) (bs : List (Nat × Vec p)) : Prop where
  inc : bs.Pairwise (fun a b => a.1 < b.1)
  lt : ∀ b ∈ bs, b.1 < n
  one : ∀ b ∈ bs, b.2 b.1 = 1
  low : ∀ b ∈ bs, ∀ i, i < b.1 → b.2 i = 0
  off : ∀ b ∈ bs, ∀ c ∈ bs, b.1 ≠ c.1 → b.2 c.1 = 0
  wid : ∀ b ∈ bs, ∀ i, n ≤ i → b.2 i = 0
/-- the part of x that the rows tell by its rests at their first places -/
def red : List (Nat × Vec p) → Vec p → Vec p
  | [], _ => zeroV
  | b :: bs, x => addV (mulV (x b.1) b.2) (red bs x)
theorem red_add : ∀ (bs : List (Nat × Vec p)) (x y : Vec p), red bs (addV x y) = addV (red bs x) (red bs y)
  | [], x, y => by simp only [red]; rw [zero_add]
  | b :: bs, x, y => by
    simp only [red]
    rw [red_add bs x y]
    funext i
    show (x b.1 + y b.1) * b.2 i + (red bs x i + red bs y i) = x b.1 * b.2 i + red bs x i + (y b.1 * b.2 i + red bs y i)
    grind
theorem red_mul (c : Fin p) : ∀ (bs : List (Nat × Vec p)) (x : Vec p), red bs (mulV c x) = mulV c (red bs x)
  | [], x => by
    simp only [red]
    funext i
    show (0 : Fin p) = c * 0
    grind
  | b :: bs, x => by
    simp only [red]
    rw [red_mul c bs x]
    funext i
    show c * x b.1 * b.2 i + c * red bs x i = c * (x b.1 * b.2 i + red bs x i)
    grind
theorem red_zero (bs : List (Nat × Vec p)) : red bs zeroV = zeroV := by
  have h := red_mul (0 : Fin p) bs zeroV
  have e : mulV (0 : Fin p) (zeroV : Vec p) = zeroV := by
    funext i
    show (0 : Fin p) * 0 = 0
    grind
  rw [e] at h
  rw [h]
  funext i
  show (0 : Fin p) * red bs zeroV i = 0
  grind
theorem red_none : ∀ (l : List (Nat × Vec p)) (x : Vec p), (∀ b ∈ l, x b.1 = 0) → red l x = zeroV
  | [], _, _ => rfl
  | b :: l, x, h => by
    simp only [red]
    rw [red_none l x fun c hc => h c (List.mem_cons_of_mem _ hc), h b List.mem_cons_self]
    funext i
    show (0 : Fin p) * b.2 i + 0 = 0
    grind
theorem red_one : ∀ (l : List (Nat × Vec p)) (b : Nat × Vec p), b ∈ l → l.Pairwise (fun a c => a.1 < c.1) → b.2 b.1 = 1 → (∀ c ∈ l, b.1 ≠ c.1 → b.2 c.1 = 0) → red l b.2 = b.2
  | a :: l, b, hb, inc, h1, h0 => by
    have inc' := List.pairwise_cons.mp inc
    simp only [red]
    rcases List.mem_cons.mp hb with rfl | hb
    · rw [red_none l b.2 fun c hc => h0 c (List.mem_cons_of_mem _ hc) (Nat.ne_of_lt (inc'.1 c hc)), h1]
      funext i
      show (1 : Fin p) * b.2 i + 0 = b.2 i
      grind
    · rw [red_one l b hb inc'.2 h1 fun c hc => h0 c (List.mem_cons_of_mem _ hc), h0 a List.mem_cons_self (Nat.ne_of_gt (inc'.1 b hb))]
      funext i
      show (0 : Fin p) * a.2 i + b.2 i = b.2 i
      grind
/-- a row of the room is told by its rests at the first places -/
theorem PF.told {n : Nat} {bs : List (Nat × Vec p)} (h : PF n bs) {x : Vec p} (hx : Spn (bs.map (·.2)) x) : red bs x = x := by
  have hS : Sub (fun x : Vec p => red bs x = x) := by
    refine ⟨red_zero bs, fun {x y} hx hy => ?_, fun c {x} hx => ?_⟩
    · show red bs (addV x y) = addV x y
      rw [red_add, hx, hy]
    · show red bs (mulV c x) = mulV c x
      rw [red_mul, hx]
  refine spn_le hS (fun v hv => ?_) hx
  obtain ⟨b, hb, rfl⟩ := List.mem_map.mp hv
  exact red_one bs b hb h.inc (h.one b hb) fun c hc ne => h.off b hb c hc ne
theorem spn_red : ∀ (bs : List (Nat × Vec p)) (x : Vec p), Spn (bs.map (·.2)) (red bs x)
  | [], x => (spn_sub _).zero
  | b :: bs, x => (spn_sub _).add ((spn_sub _).mul _ (spn_mem (by simp))) (spn_tail (spn_red bs x))
/-- a first place of a row -/
def Lead (x : Vec p) (j : Nat) : Prop := x j ≠ 0 ∧ ∀ i, i < j → x i = 0
theorem red_low : ∀ (l : List (Nat × Vec p)) (x : Vec p) (j : Nat), (∀ i, i < j → x i = 0) → (∀ b ∈ l, b.1 ≠ j) → (∀ b ∈ l, ∀ i, i < b.1 → b.2 i = 0) → red l x j = 0
  | [], _, _, _, _, _ => rfl
  | b :: l, x, j, hx, hn, hl => by
    have ih := red_low l x j hx (fun c hc => hn c (List.mem_cons_of_mem _ hc)) fun c hc => hl c (List.mem_cons_of_mem _ hc)
    show x b.1 * b.2 j + red l x j = 0
    rw [ih]
    rcases Nat.lt_or_ge b.1 j with h | h
    · rw [hx b.1 h]
      grind
    · have h2 : j < b.1 := Nat.lt_of_le_of_ne h (Ne.symm (hn b List.mem_cons_self))
      rw [hl b List.mem_cons_self j h2]
      grind
theorem PF.lead {n : Nat} {bs : List (Nat × Vec p)} (h : PF n bs) {x : Vec p} {j : Nat} (hx : Spn (bs.map (·.2)) x) (hj : Lead x j) : ∃ b ∈ bs, b.1 = j := by
  apply Classical.byContradiction
  intro hn
  have e := h.told hx
  apply hj.1
  rw [← e]
  exact red_low bs x j hj.2 (fun b hb e => hn ⟨b, hb, e⟩) h.low
theorem PF.leads {n : Nat} {bs : List (Nat × Vec p)} (h : PF n bs) (h1 : (1 : Fin p) ≠ 0) {b : Nat × Vec p} (hb : b ∈ bs) : Lead b.2 b.1 := ⟨by rw [h.one b hb]; exact h1, h.low b hb⟩
theorem sorted_eq : ∀ {l m : List Nat}, l.Pairwise (· < ·) → m.Pairwise (· < ·) → (∀ x, x ∈ l ↔ x ∈ m) → l = m
  | [], [], _, _, _ => rfl
  | [], b :: m, _, _, h => by simpa using (h b).mpr List.mem_cons_self
  | a :: l, [], _, _, h => by simpa using (h a).mp List.mem_cons_self
  | a :: l, b :: m, hl, hm, h => by
    have hl' := List.pairwise_cons.mp hl
    have hm' := List.pairwise_cons.mp hm
    have e : a = b := by
      rcases List.mem_cons.mp ((h a).mp List.mem_cons_self) with e | e
      · exact e
      · rcases List.mem_cons.mp ((h b).mpr List.mem_cons_self) with e2 | e2
        · exact e2.symm
        · have := hm'.1 a e
          have := hl'.1 b e2
          omega
    subst e
    congr 1
    refine sorted_eq hl'.2 hm'.2 fun x => ⟨fun hx => ?_, fun hx => ?_⟩
    · rcases List.mem_cons.mp ((h x).mp (List.mem_cons_of_mem _ hx)) with e | e
      · have := hl'.1 x hx
        omega
      · exact e
    · rcases List.mem_cons.mp ((h x).mpr (List.mem_cons_of_mem _ hx)) with e | e
      · have := hm'.1 x hx
        omega
      · exact e
theorem pairs_eq : ∀ {bs cs : List (Nat × Vec p)}, bs.map (·.1) = cs.map (·.1) → (∀ b ∈ bs, ∀ c ∈ cs, b.1 = c.1 → b.2 = c.2) → bs = cs
  | [], [], _, _ => rfl
  | [], _ :: _, e, _ => by cases e
  | _ :: _, [], e, _ => by cases e
  | b :: bs, c :: cs, e, h => by
    rw [List.map_cons, List.map_cons] at e
    have e1 : b.1 = c.1 := (List.cons.inj e).1
    have e2 := h b List.mem_cons_self c List.mem_cons_self e1
    have e3 : b = c := by
      cases b
      cases c
      simp only at e1 e2
      rw [e1, e2]
    rw [e3, pairs_eq (List.cons.inj e).2 fun x hx y hy => h x (List.mem_cons_of_mem _ hx) y (List.mem_cons_of_mem _ hy)]
/-- each room has just one plain form -/
theorem PF.uniq {n m : Nat} {bs cs : List (Nat × Vec p)} (h1 : (1 : Fin p) ≠ 0) (hb : PF n bs) (hc : PF m cs) (h : ∀ x, Spn (bs.map (·.2)) x ↔ Spn (cs.map (·.2)) x) : bs = cs := by
  have inB : ∀ b ∈ bs, ∃ c ∈ cs, c.1 = b.1 := fun b m => hc.lead ((h _).mp (spn_mem (List.mem_map_of_mem m))) (hb.leads h1 m)
  have inC : ∀ c ∈ cs, ∃ b ∈ bs, b.1 = c.1 := fun c m => hb.lead ((h _).mpr (spn_mem (List.mem_map_of_mem m))) (hc.leads h1 m)
  have ef : bs.map (·.1) = cs.map (·.1) := by
    refine sorted_eq ?_ ?_ fun x => ⟨fun hx => ?_, fun hx => ?_⟩
    · exact List.pairwise_map.mpr hb.inc
    · exact List.pairwise_map.mpr hc.inc
    · obtain ⟨b, m, rfl⟩ := List.mem_map.mp hx
      obtain ⟨c, m', e⟩ := inB b m
      exact List.mem_map.mpr ⟨c, m', e⟩
    · obtain ⟨c, m, rfl⟩ := List.mem_map.mp hx
      obtain ⟨b, m', e⟩ := inC c m
      exact List.mem_map.mpr ⟨b, m', e⟩
  refine pairs_eq ef fun b mb c mc e => ?_
  have hx : Spn (cs.map (·.2)) b.2 := (h _).mp (spn_mem (List.mem_map_of_mem mb))
  have t := hc.told hx
  rw [← t]
  -- b's rests at the first places of cs are those of c
  have key : ∀ l : List (Nat × Vec p), (∀ d ∈ l, b.2 d.1 = c.2 d.1) → red l b.2 = red l c.2 := by
    intro l
    induction l with
    | nil => intro _; rfl
    | cons d l ih =>
      intro hd
      simp only [red]
      rw [hd d List.mem_cons_self, ih fun x hx => hd x (List.mem_cons_of_mem _ hx)]
  rw [key cs fun d md => ?_]
  · exact red_one cs c mc hc.inc (hc.one c mc) fun d md ne => hc.off c mc d md ne
  · by_cases ne : b.1 = d.1
    · rw [← ne, hb.one b mb, e, hc.one c mc]
    · obtain ⟨b', mb', e'⟩ := inC d md
      rw [← e', hb.off b mb b' mb' (by rw [e']; exact ne), e', hc.off c mc d md (by rw [← e]; exact ne)]
theorem red_at : ∀ (l : List (Nat × Vec p)) (x : Vec p) (c : Nat × Vec p), c ∈ l → l.Pairwise (fun a b => a.1 < b.1) → c.2 c.1 = 1 → (∀ b ∈ l, b.1 ≠ c.1 → b.2 c.1 = 0) → red l x c.1 = x c.1
  | a :: l, x, c, hc, inc, h1, h0 => by
    have inc' := List.pairwise_cons.mp inc
    show x a.1 * a.2 c.1 + red l x c.1 = x c.1
    rcases List.mem_cons.mp hc with rfl | hc
    · have z : ∀ m : List (Nat × Vec p), (∀ b ∈ m, b.2 c.1 = 0) → red m x c.1 = 0 := by
        intro m
        induction m with
        | nil => intro _; rfl
        | cons b m ih =>
          intro hm
          show x b.1 * b.2 c.1 + red m x c.1 = 0
          rw [hm b List.mem_cons_self, ih fun y hy => hm y (List.mem_cons_of_mem _ hy)]
          grind
      rw [z l fun b hb => h0 b (List.mem_cons_of_mem _ hb) (Nat.ne_of_gt (inc'.1 b hb)), h1]
      grind
    · rw [red_at l x c hc inc'.2 h1 fun b hb => h0 b (List.mem_cons_of_mem _ hb), h0 a List.mem_cons_self (Nat.ne_of_lt (inc'.1 c hc))]
      grind
theorem PF.at {n : Nat} {bs : List (Nat × Vec p)} (h : PF n bs) (x : Vec p) {c : Nat × Vec p} (hc : c ∈ bs) : red bs x c.1 = x c.1 :=
  red_at bs x c hc h.inc (h.one c hc) fun b hb ne => h.off b hb c hc ne
theorem sorted_len : ∀ {l m : List Nat}, l.Pairwise (· < ·) → m.Pairwise (· < ·) → (∀ x ∈ l, x ∈ m) → l.length ≤ m.length ∧ (m.length ≤ l.length → ∀ x ∈ m, x ∈ l)
  | [], m, _, _, _ => ⟨Nat.zero_le _, fun h x hx => by
      cases m with
      | nil => exact hx
      | cons a b => simp at h⟩
  | a :: l, [], _, _, h => by simpa using h a List.mem_cons_self
  | a :: l, b :: m, hl, hm, h => by
    have hl' := List.pairwise_cons.mp hl
    have hm' := List.pairwise_cons.mp hm
    by_cases e : a = b
    · subst e
      have ih := sorted_len hl'.2 hm'.2 fun x hx => by
        rcases List.mem_cons.mp (h x (List.mem_cons_of_mem _ hx)) with e | e
        · have := hl'.1 x hx
          omega
        · exact e
      refine ⟨by simpa using ih.1, fun hle x hx => ?_⟩
      rcases List.mem_cons.mp hx with rfl | hx
      · exact List.mem_cons_self
      · exact List.mem_cons_of_mem _ (ih.2 (by simpa using hle) x hx)
    · have ha : a ∈ m := by
        rcases List.mem_cons.mp (h a List.mem_cons_self) with z | z
        · exact absurd z e
        · exact z
      have ih := sorted_len (l := a :: l) hl hm'.2 fun x hx => by
        rcases List.mem_cons.mp (h x hx) with z | z
        · rcases List.mem_cons.mp hx with y | y
          · omega
          · have := hl'.1 x y
            have := hm'.1 a ha
            omega
        · exact z
      refine ⟨Nat.le_succ_of_le ih.1, fun hle => ?_⟩
      have := ih.1
      simp only [List.length_cons] at this hle
      omega
theorem PF.firsts_sub {n m : Nat} {bs cs : List (Nat × Vec p)} (hb : PF n bs) (hc : PF m cs) (h1 : (1 : Fin p) ≠ 0) (h : ∀ x, Spn (bs.map (·.2)) x → Spn (cs.map (·.2)) x) : ∀ j ∈ bs.map (·.1), j ∈ cs.map (·.1) := by
  intro j hj
  obtain ⟨b, mb, rfl⟩ := List.mem_map.mp hj
  obtain ⟨c, mc, e⟩ := hc.lead (h _ (spn_mem (List.mem_map_of_mem mb))) (hb.leads h1 mb)
  exact List.mem_map.mpr ⟨c, mc, e⟩
theorem PF.len_le {n m : Nat} {bs cs : List (Nat × Vec p)} (hb : PF n bs) (hc : PF m cs) (h1 : (1 : Fin p) ≠ 0) (h : ∀ x, Spn (bs.map (·.2)) x → Spn (cs.map (·.2)) x) : bs.length ≤ cs.length := by
  have := (sorted_len (List.pairwise_map.mpr hb.inc) (List.pairwise_map.mpr hc.inc) (hb.firsts_sub hc h1 h)).1
  rw [List.length_map, List.length_map] at this
  exact this
/-- one room within another, with as many first places: the same -/
theorem PF.same_of_len {n m : Nat} {bs cs : List (Nat × Vec p)} (hb : PF n bs) (hc : PF m cs) (h1 : (1 : Fin p) ≠ 0) (h : ∀ x, Spn (bs.map (·.2)) x → Spn (cs.map (·.2)) x) (hl : cs.length ≤ bs.length) {x : Vec p} (hx : Spn (cs.map (·.2)) x) : Spn (bs.map (·.2)) x := by
  have back := (sorted_len (List.pairwise_map.mpr hb.inc) (List.pairwise_map.mpr hc.inc) (hb.firsts_sub hc h1 h)).2 (by rw [List.length_map, List.length_map]; exact hl)
  have hy : Spn (cs.map (·.2)) (fun i => x i - 1 * red bs x i) := (spn_sub _).less 1 hx (h _ (spn_red bs x))
  have t := hc.told hy
  have z : red cs (fun i => x i - 1 * red bs x i) = zeroV := red_none cs _ fun c mc => by
    obtain ⟨b, mb, e⟩ := List.mem_map.mp (back c.1 (List.mem_map_of_mem mc))
    have := hb.at x mb
    show x c.1 - 1 * red bs x c.1 = 0
    rw [← e, this]
    grind
  rw [z] at t
  have e : x = red bs x := by
    funext i
    have := congrFun t i
    have this : (0 : Fin p) = x i - 1 * red bs x i := this
    grind
  rw [e]
  exact spn_red bs x
/-! ### taking off, place by place -/
variable (inv : Fin p → Fin p)
def lessV (x own : Vec p) (j : Nat) : Vec p := fun i => x i - x j * own i
def ownV (a : Vec p) (j : Nat) : Vec p := mulV (inv (a j)) a
def stepV (st : List (Vec p) × List (Nat × Vec p)) (k : Nat) : List (Vec p) × List (Nat × Vec p) :=
  match st.1.filter (fun x => decide (x k ≠ 0)) with
  | [] => st
  | a :: _ => (st.1.map fun x => lessV x (ownV inv a k) k, (st.2.map fun b => (b.1, lessV b.2 (ownV inv a k) k)) ++ [(k, ownV inv a k)])
def plainV (n : Nat) (vs : List (Vec p)) : List (Nat × Vec p) := ((List.range n).foldl (stepV inv) (vs, [])).2
structure StepOk (n k : Nat) (vs : List (Vec p)) (st : List (Vec p) × List (Nat × Vec p)) : Prop where
  low : ∀ x ∈ st.1, ∀ i, i < k → x i = 0
  wid : ∀ x ∈ st.1, ∀ i, n ≤ i → x i = 0
  pf : PF n st.2
  below : ∀ b ∈ st.2, b.1 < k
  to : ∀ x, Spn (st.1 ++ st.2.map (·.2)) x → Spn vs x
  from_ : ∀ x, Spn vs x → Spn (st.1 ++ st.2.map (·.2)) x
theorem filter_head {α : Type} {q : α → Bool} {l : List α} {a : α} {r : List α} (h : l.filter q = a :: r) : a ∈ l ∧ q a = true := by
  have : a ∈ l.filter q := by rw [h]; exact List.mem_cons_self
  exact List.mem_filter.mp this
theorem step_ok {n k : Nat} {vs : List (Vec p)} {st : List (Vec p) × List (Nat × Vec p)} (hinv : ∀ a : Fin p, a ≠ 0 → inv a * a = 1) (hk : k < n) (h : StepOk n k vs st) : StepOk n (k + 1) vs (stepV inv st k) := by
  unfold stepV
  split
  · rename_i hf
    refine ⟨fun x hx i hi => ?_, h.wid, h.pf, fun b hb => Nat.lt_succ_of_lt (h.below b hb), h.to, h.from_⟩
    by_cases e : i = k
    · subst e
      apply Classical.byContradiction
      intro hne
      have : x ∈ st.1.filter (fun x => decide (x i ≠ 0)) := List.mem_filter.mpr ⟨hx, decide_eq_true hne⟩
      rw [hf] at this
      cases this
    · exact h.low x hx i (by omega)
  · rename_i a r hf
    obtain ⟨ha, hq⟩ := filter_head hf
    have hak : a k ≠ 0 := of_decide_eq_true hq
    have ok1 : ownV inv a k k = 1 := hinv _ hak
    have okl : ∀ i, i < k → ownV inv a k i = 0 := fun i hi => by
      show inv (a k) * a i = 0
      rw [h.low a ha i hi]
      grind
    have okw : ∀ i, n ≤ i → ownV inv a k i = 0 := fun i hi => by
      show inv (a k) * a i = 0
      rw [h.wid a ha i hi]
      grind
    have less_k : ∀ x : Vec p, lessV x (ownV inv a k) k k = 0 := fun x => by
      show x k - x k * ownV inv a k k = 0
      rw [ok1]
      grind
    have less_lt : ∀ (x : Vec p) i, i < k → lessV x (ownV inv a k) k i = x i := fun x i hi => by
      show x i - x k * ownV inv a k i = x i
      rw [okl i hi]
      grind
    have less_w : ∀ (x : Vec p) i, n ≤ i → x i = 0 → lessV x (ownV inv a k) k i = 0 := fun x i hi hx => by
      show x i - x k * ownV inv a k i = 0
      rw [okw i hi, hx]
      grind
    have own_in : Spn (st.1 ++ st.2.map (·.2)) (ownV inv a k) := (spn_sub _).mul _ (spn_mem (List.mem_append_left _ ha))
    generalize ownV inv a k = own at *
    refine ⟨?_, ?_, ⟨?_, ?_, ?_, ?_, ?_, ?_⟩, ?_, ?_, ?_⟩
    · intro x hx i hi
      obtain ⟨y, my, rfl⟩ := List.mem_map.mp hx
      by_cases e : i = k
      · subst e
        exact less_k y
      · rw [less_lt y i (by omega)]
        exact h.low y my i (by omega)
    · intro x hx i hi
      obtain ⟨y, my, rfl⟩ := List.mem_map.mp hx
      exact less_w y i hi (h.wid y my i hi)
    · refine List.pairwise_append.mpr ⟨?_, List.pairwise_singleton _ _, fun b hb c hc => ?_⟩
      · exact List.pairwise_map.mpr h.pf.inc
      · obtain ⟨b', mb, rfl⟩ := List.mem_map.mp hb
        have : c = (k, own) := by simpa using hc
        subst this
        exact h.below b' mb
    · intro b hb
      rcases List.mem_append.mp hb with hb | hb
      · obtain ⟨b', mb, rfl⟩ := List.mem_map.mp hb
        exact h.pf.lt b' mb
      · have : b = (k, own) := by simpa using hb
        subst this
        exact hk
    · intro b hb
      rcases List.mem_append.mp hb with hb | hb
      · obtain ⟨b', mb, rfl⟩ := List.mem_map.mp hb
        show lessV b'.2 own k b'.1 = 1
        rw [less_lt _ _ (h.below b' mb)]
        exact h.pf.one b' mb
      · have : b = (k, own) := by simpa using hb
        subst this
        exact ok1
    · intro b hb i hi
      rcases List.mem_append.mp hb with hb | hb
      · obtain ⟨b', mb, rfl⟩ := List.mem_map.mp hb
        have hi : i < b'.1 := hi
        show lessV b'.2 own k i = 0
        rw [less_lt _ _ (Nat.lt_trans hi (h.below b' mb))]
        exact h.pf.low b' mb i hi
      · have : b = (k, own) := by simpa using hb
        subst this
        exact okl i hi
    · intro b hb c hc ne
      rcases List.mem_append.mp hb with hb | hb
      · obtain ⟨b', mb, rfl⟩ := List.mem_map.mp hb
        rcases List.mem_append.mp hc with hc | hc
        · obtain ⟨c', mc, rfl⟩ := List.mem_map.mp hc
          show lessV b'.2 own k c'.1 = 0
          rw [less_lt _ _ (h.below c' mc)]
          exact h.pf.off b' mb c' mc ne
        · have : c = (k, own) := by simpa using hc
          subst this
          exact less_k b'.2
      · have : b = (k, own) := by simpa using hb
        subst this
        rcases List.mem_append.mp hc with hc | hc
        · obtain ⟨c', mc, rfl⟩ := List.mem_map.mp hc
          exact okl c'.1 (h.below c' mc)
        · have : c = (k, own) := by simpa using hc
          subst this
          exact absurd rfl ne
    · intro b hb i hi
      rcases List.mem_append.mp hb with hb | hb
      · obtain ⟨b', mb, rfl⟩ := List.mem_map.mp hb
        exact less_w b'.2 i hi (h.pf.wid b' mb i hi)
      · have : b = (k, own) := by simpa using hb
        subst this
        exact okw i hi
    · intro b hb
      rcases List.mem_append.mp hb with hb | hb
      · obtain ⟨b', mb, rfl⟩ := List.mem_map.mp hb
        exact Nat.lt_succ_of_lt (h.below b' mb)
      · have : b = (k, own) := by simpa using hb
        subst this
        exact Nat.lt_succ_self k
    · intro x hx
      refine h.to x (spn_sub_of (fun v hv => ?_) hx)
      rcases List.mem_append.mp hv with hv | hv
      · obtain ⟨y, my, rfl⟩ := List.mem_map.mp hv
        exact (spn_sub _).less (y k) (spn_mem (List.mem_append_left _ my)) own_in
      · obtain ⟨b, mb, rfl⟩ := List.mem_map.mp hv
        rcases List.mem_append.mp mb with mb | mb
        · obtain ⟨b', mb', rfl⟩ := List.mem_map.mp mb
          exact (spn_sub _).less (b'.2 k) (spn_mem (List.mem_append_right _ (List.mem_map_of_mem mb'))) own_in
        · have : b = (k, own) := by simpa using mb
          subst this
          exact own_in
    · intro x hx
      have own_in' : Spn (st.1.map (fun x => lessV x own k) ++ ((st.2.map fun b => (b.1, lessV b.2 own k)) ++ [(k, own)]).map (·.2)) own := spn_mem (by simp)
      have back : ∀ y : Vec p, Spn (st.1.map (fun x => lessV x own k) ++ ((st.2.map fun b => (b.1, lessV b.2 own k)) ++ [(k, own)]).map (·.2)) (lessV y own k) → Spn (st.1.map (fun x => lessV x own k) ++ ((st.2.map fun b => (b.1, lessV b.2 own k)) ++ [(k, own)]).map (·.2)) y := by
        intro y hy
        have := (spn_sub _).add hy ((spn_sub _).mul (y k) own_in')
        have e : addV (lessV y own k) (mulV (y k) own) = y := by
          funext i
          show y i - y k * own i + y k * own i = y i
          grind
        rw [e] at this
        exact this
      refine spn_sub_of (fun v hv => ?_) (h.from_ x hx)
      rcases List.mem_append.mp hv with hv | hv
      · exact back v (spn_mem (List.mem_append_left _ (List.mem_map_of_mem hv)))
      · obtain ⟨b, mb, rfl⟩ := List.mem_map.mp hv
        refine back b.2 (spn_mem (List.mem_append_right _ ?_))
        refine List.mem_map.mpr ⟨(b.1, lessV b.2 own k), List.mem_append_left _ (List.mem_map.mpr ⟨b, mb, rfl⟩), rfl⟩
theorem steps_ok {n : Nat} {vs : List (Vec p)} (hinv : ∀ a : Fin p, a ≠ 0 → inv a * a = 1) (hw : ∀ x ∈ vs, ∀ i, n ≤ i → x i = 0) : ∀ k, k ≤ n → StepOk n k vs ((List.range k).foldl (stepV inv) (vs, []))
  | 0, _ => by
    refine ⟨fun x _ i hi => absurd hi (Nat.not_lt_zero i), hw, ⟨.nil, fun b h => (nomatch h), fun b h => (nomatch h), fun b h => (nomatch h), fun b h => (nomatch h), fun b h => (nomatch h)⟩, fun b h => (nomatch h), fun x hx => ?_, fun x hx => ?_⟩
    · simpa using hx
    · simpa using hx
  | k + 1, hk => by
    rw [List.range_succ, List.foldl_append]
    exact step_ok inv hinv (by omega) (steps_ok hinv hw k (by omega))
/-- taking off, place by place, tells the plain form of what the rows make -/
theorem plainV_pf {n : Nat} {vs : List (Vec p)} (hinv : ∀ a : Fin p, a ≠ 0 → inv a * a = 1) (hw : ∀ x ∈ vs, ∀ i, n ≤ i → x i = 0) : PF n (plainV inv n vs) := (steps_ok inv hinv hw n (Nat.le_refl n)).pf
theorem plainV_spn {n : Nat} {vs : List (Vec p)} (hinv : ∀ a : Fin p, a ≠ 0 → inv a * a = 1) (hw : ∀ x ∈ vs, ∀ i, n ≤ i → x i = 0) (x : Vec p) : Spn ((plainV inv n vs).map (·.2)) x ↔ Spn vs x := by
  have h := steps_ok inv hinv hw n (Nat.le_refl n)
  constructor
  · intro hx
    refine h.to x (spn_sub_of (fun v hv => spn_mem (List.mem_append_right _ hv)) hx)
  · intro hx
    refine spn_sub_of (fun v hv => ?_) (h.from_ x hx)
    rcases List.mem_append.mp hv with hv | hv
    · have e : v = zeroV := by
        funext i
        rcases Nat.lt_or_ge i n with hi | hi
        · exact h.low v hv i hi
        · exact h.wid v hv i hi
      rw [e]
      exact (spn_sub _).zero
    · exact spn_mem hv
theorem spn_append {vs ws : List (Vec p)} {S : Vec p → Prop} (hS : Sub S) (h1 : ∀ x, Spn vs x → S x) (h2 : ∀ x, Spn ws x → S x) (x : Vec p) (hx : Spn (vs ++ ws) x) : S x :=
  spn_le hS (fun v hv => (List.mem_append.mp hv).elim (fun h => h1 v (spn_mem h)) fun h => h2 v (spn_mem h)) hx
theorem spn_left {vs ws : List (Vec p)} {x : Vec p} (h : Spn vs x) : Spn (vs ++ ws) x := spn_sub_of (fun v hv => spn_mem (List.mem_append_left _ hv)) h
theorem spn_right {vs ws : List (Vec p)} {x : Vec p} (h : Spn ws x) : Spn (vs ++ ws) x := spn_sub_of (fun v hv => spn_mem (List.mem_append_right _ hv)) h
/-- a row more: as many rows as before just where it is made by them -/
theorem plainV_has {n : Nat} {vs : List (Vec p)} {v : Vec p} (h1 : (1 : Fin p) ≠ 0) (hinv : ∀ a : Fin p, a ≠ 0 → inv a * a = 1) (hw : ∀ x ∈ vs, ∀ i, n ≤ i → x i = 0) (hv : ∀ i, n ≤ i → v i = 0) :
    (plainV inv n (vs ++ [v])).length = (plainV inv n vs).length ↔ Spn vs v := by
  have hw' : ∀ x ∈ vs ++ [v], ∀ i, n ≤ i → x i = 0 := fun x hx => by
    rcases List.mem_append.mp hx with h | h
    · exact hw x h
    · have : x = v := by simpa using h
      rw [this]
      exact hv
  have A := plainV_pf inv hinv hw
  have B := plainV_pf inv hinv hw'
  have sa := plainV_spn inv hinv hw
  have sb := plainV_spn inv hinv hw'
  constructor
  · intro e
    have := A.same_of_len B h1 (fun x hx => (sb x).mpr (spn_left ((sa x).mp hx))) (Nat.le_of_eq e) ((sb v).mpr (spn_right (spn_mem (by simp))))
    exact (sa v).mp this
  · intro hs
    have same : ∀ x, Spn (vs ++ [v]) x ↔ Spn vs x := fun x => ⟨fun hx => spn_append (spn_sub vs) (fun _ h => h) (fun y hy => spn_sub_of (fun z hz => by
      have : z = v := by simpa using hz
      rw [this]
      exact hs) hy) x hx, spn_left⟩
    rw [B.uniq h1 A fun x => (sb x).trans ((same x).trans (sa x).symm)]
theorem plainV_len_le {n : Nat} {vs ws : List (Vec p)} (h1 : (1 : Fin p) ≠ 0) (hinv : ∀ a : Fin p, a ≠ 0 → inv a * a = 1) (hv : ∀ x ∈ vs, ∀ i, n ≤ i → x i = 0) (hw : ∀ x ∈ ws, ∀ i, n ≤ i → x i = 0) (h : ∀ x, Spn vs x → Spn ws x) : (plainV inv n vs).length ≤ (plainV inv n ws).length :=
  (plainV_pf inv hinv hv).len_le (plainV_pf inv hinv hw) h1 fun x hx => (plainV_spn inv hinv hw x).mpr (h x ((plainV_spn inv hinv hv x).mp hx))
end
end Lin
/-! rows of ints mod p as vectors; the law's own taking off -/
namespace OC
set_option linter.all false
open Lin
def ctr (p a : Int) : Int := (((List.range p.toNat).map fun (b : Nat) => (b : Int)).filter fun b => decide (a * b % p = 1)).headD 0
def lessR (p : Int) (x y : List Int) (j : Nat) : List Int := List.zipWith (fun r m => (r - x.getD j 0 * m) % p) x y
def ownR (p : Int) (a : List Int) (j : Nat) : List Int := a.map fun r => ctr p (a.getD j 0) * r % p
def stepR (p : Int) (st : List (List Int) × List (List Int)) (k : Nat) : List (List Int) × List (List Int) :=
  match st.1.filter (fun r => decide (r.getD k 0 ≠ 0)) with
  | [] => st
  | a :: _ => (st.1.map fun r => lessR p r (ownR p a k) k, (st.2.map fun r => lessR p r (ownR p a k) k) ++ [ownR p a k])
def plainR (p : Int) (n : Nat) (rows : List (List Int)) : List (List Int) := ((List.range n).foldl (stepR p) (rows, [])).2
/-- each rest but 0 has a contrary one -/
def Fld (p : Int) : Prop := 2 ≤ p ∧ ∀ a : Int, 1 ≤ a → a < p → ∃ b : Int, 1 ≤ b ∧ b < p ∧ a * b % p = 1
theorem ctr_ok {p a : Int} (h : Fld p) (h0 : 1 ≤ a) (h1 : a < p) : 0 ≤ ctr p a ∧ ctr p a < p ∧ a * ctr p a % p = 1 := by
  obtain ⟨b, b1, b2, b3⟩ := h.2 a h0 h1
  unfold ctr
  generalize hl : ((List.range p.toNat).map fun (b : Nat) => (b : Int)).filter (fun b => decide (a * b % p = 1)) = l
  have mem : ∀ x ∈ l, 0 ≤ x ∧ x < p ∧ a * x % p = 1 := by
    intro x hx
    rw [← hl] at hx
    obtain ⟨hx, hq⟩ := List.mem_filter.mp hx
    obtain ⟨i, hi, rfl⟩ := List.mem_map.mp hx
    have := List.mem_range.mp hi
    exact ⟨by omega, by omega, of_decide_eq_true hq⟩
  cases l with
  | nil =>
    have : b ∈ ((List.range p.toNat).map fun (b : Nat) => (b : Int)).filter (fun b => decide (a * b % p = 1)) := List.mem_filter.mpr ⟨List.mem_map.mpr ⟨b.toNat, List.mem_range.mpr (by omega), by omega⟩, decide_eq_true b3⟩
    rw [hl] at this
    cases this
  | cons x r => exact mem x List.mem_cons_self
theorem gd_lt {r : List Int} {i : Nat} (h : i < r.length) : r.getD i 0 = r[i] := by
  rw [List.getD_eq_getElem?_getD, List.getElem?_eq_getElem h]
  rfl
theorem gd_ge {r : List Int} {i : Nat} (h : r.length ≤ i) : r.getD i 0 = 0 := by
  rw [List.getD_eq_getElem?_getD, List.getElem?_eq_none h]
  rfl
section
variable {q : Nat} [NeZero q]
theorem q_pos : (0 : Int) < q := by
  have := Nat.pos_of_ne_zero (NeZero.ne q)
  omega
def cF (x : Int) : Fin q := ⟨(x % q).toNat, by
  have h1 := Int.emod_lt_of_pos x (q_pos (q := q))
  have h2 := Int.emod_nonneg x (show (q : Int) ≠ 0 by have := q_pos (q := q); omega)
  omega⟩
theorem cF_val (x : Int) : ((cF (q := q) x).val : Int) = x % q := by
  show (((x % q).toNat : Nat) : Int) = x % q
  exact Int.toNat_of_nonneg (Int.emod_nonneg x (by have := q_pos (q := q); omega))
theorem fin_ext_int {a b : Fin q} (h : (a.val : Int) = (b.val : Int)) : a = b := Fin.ext (by omega)
theorem cF_add (x y : Int) : cF (q := q) (x + y) = cF x + cF y := by
  apply fin_ext_int
  rw [cF_val, Fin.val_add, Int.natCast_emod, Int.natCast_add, cF_val, cF_val, ← Int.add_emod]
theorem cF_mul (x y : Int) : cF (q := q) (x * y) = cF x * cF y := by
  apply fin_ext_int
  rw [cF_val, Fin.val_mul, Int.natCast_emod, Int.natCast_mul, cF_val, cF_val, ← Int.mul_emod]
theorem cF_mod (x : Int) : cF (q := q) (x % q) = cF x := by
  apply fin_ext_int
  rw [cF_val, cF_val, Int.emod_emod]
theorem cF_zero : cF (q := q) 0 = 0 := by
  have h := cF_add (q := q) 0 0
  rw [Int.add_zero] at h
  grind
theorem cF_sub (x y : Int) : cF (q := q) (x - y) = cF x - cF y := by
  have h := cF_add (q := q) (x - y) y
  rw [Int.sub_add_cancel] at h
  grind
theorem cF_inj {x y : Int} (hx : 0 ≤ x ∧ x < q) (hy : 0 ≤ y ∧ y < q) (h : cF (q := q) x = cF y) : x = y := by
  have h1 := congrArg (fun a : Fin q => (a.val : Int)) h
  simp only [cF_val] at h1
  rw [Int.emod_eq_of_lt hx.1 hx.2, Int.emod_eq_of_lt hy.1 hy.2] at h1
  exact h1
theorem cF_ne {x : Int} (hx : 0 ≤ x ∧ x < q) : cF (q := q) x ≠ 0 ↔ x ≠ 0 := by
  constructor
  · intro h e
    rw [e] at h
    exact h cF_zero
  · intro h e
    rw [← cF_zero] at e
    exact h (cF_inj hx ⟨by omega, by omega⟩ e)
theorem cF_one (h : 2 ≤ q) : cF (q := q) 1 = 1 := by
  apply fin_ext_int
  rw [cF_val, Int.emod_eq_of_lt (by omega) (by omega)]
  have : (1 : Fin q).val = 1 % q := rfl
  rw [this, Nat.mod_eq_of_lt (by omega)]
  rfl
theorem one_ne (h : 2 ≤ q) : (1 : Fin q) ≠ 0 := by
  rw [← cF_one h]
  exact (cF_ne ⟨by omega, by omega⟩).mpr (by omega)
/-- a row as a vector -/
def toV (r : List Int) : Vec q := fun i => cF (r.getD i 0)
def RowsOk (p : Int) (n : Nat) (rows : List (List Int)) : Prop := ∀ r ∈ rows, r.length = n ∧ ∀ x ∈ r, 0 ≤ x ∧ x < p
def invF (f : Fin q) : Fin q := cF (ctr q (f.val : Int))
theorem invF_ok (h : Fld (q : Int)) : ∀ a : Fin q, a ≠ 0 → invF a * a = 1 := by
  intro a ha
  have hv : 1 ≤ (a.val : Int) := by
    have : a.val ≠ 0 := fun e => ha (Fin.ext (by rw [e]; rfl))
    omega
  obtain ⟨_, _, h3⟩ := ctr_ok h hv (by have := a.isLt; omega)
  have e : a = cF (q := q) (a.val : Int) := by
    apply fin_ext_int
    rw [cF_val, Int.emod_eq_of_lt (by omega) (by have := a.isLt; omega)]
  have h2 : (2 : Int) ≤ q := h.1
  show cF (ctr q (a.val : Int)) * a = 1
  rw [show cF (q := q) (ctr q (a.val : Int)) * a = cF (ctr q (a.val : Int)) * cF (a.val : Int) by rw [← e], ← cF_mul, ← cF_mod, Int.mul_comm, h3, cF_one (by omega)]
theorem getD_lt {r : List Int} {p : Int} (hp : 0 < p) (h : ∀ x ∈ r, 0 ≤ x ∧ x < p) (i : Nat) : 0 ≤ r.getD i 0 ∧ r.getD i 0 < p := by
  by_cases hi : i < r.length
  · rw [gd_lt hi]
    exact h _ (List.getElem_mem hi)
  · rw [gd_ge (by omega)]
    omega
theorem toV_wid {r : List Int} {n : Nat} (h : r.length = n) (i : Nat) (hi : n ≤ i) : toV (q := q) r i = 0 := by
  show cF (r.getD i 0) = 0
  rw [gd_ge (by omega), cF_zero]
theorem toV_inj {x y : List Int} (hl : x.length = y.length) (hx : ∀ v ∈ x, 0 ≤ v ∧ v < (q : Int)) (hy : ∀ v ∈ y, 0 ≤ v ∧ v < (q : Int)) (h : toV (q := q) x = toV y) : x = y := by
  apply List.ext_getElem hl
  intro i h1 h2
  have e := congrFun h i
  have e : cF (q := q) (x.getD i 0) = cF (y.getD i 0) := e
  rw [gd_lt h1, gd_lt h2] at e
  exact cF_inj (hx _ (List.getElem_mem h1)) (hy _ (List.getElem_mem h2)) e
theorem getD_zipWith (f : Int → Int → Int) {x y : List Int} (h : x.length = y.length) {i : Nat} (hi : i < x.length) : (List.zipWith f x y).getD i 0 = f (x.getD i 0) (y.getD i 0) := by
  rw [gd_lt (by rw [List.length_zipWith]; omega), List.getElem_zipWith, gd_lt hi, gd_lt (by omega)]
theorem toV_less {x y : List Int} (h : x.length = y.length) (j : Nat) : toV (q := q) (lessR q x y j) = lessV (toV x) (toV y) j := by
  funext i
  show cF ((lessR q x y j).getD i 0) = cF (x.getD i 0) - cF (x.getD j 0) * cF (y.getD i 0)
  by_cases hi : i < x.length
  · unfold lessR
    rw [getD_zipWith _ h hi, cF_mod, cF_sub, cF_mul]
  · rw [gd_ge (by unfold lessR; rw [List.length_zipWith]; omega), gd_ge (r := x) (by omega), gd_ge (r := y) (by omega), cF_zero]
    grind
theorem toV_own {a : List Int} (ha : ∀ v ∈ a, 0 ≤ v ∧ v < (q : Int)) (j : Nat) : toV (q := q) (ownR q a j) = ownV invF (toV a) j := by
  funext i
  have hj := getD_lt q_pos ha j
  have ev : ((cF (q := q) (a.getD j 0)).val : Int) = a.getD j 0 := by rw [cF_val, Int.emod_eq_of_lt hj.1 hj.2]
  show cF ((ownR q a j).getD i 0) = cF (ctr q ((cF (q := q) (a.getD j 0)).val : Int)) * cF (a.getD i 0)
  rw [ev]
  by_cases hi : i < a.length
  · unfold ownR
    rw [gd_lt (by rw [List.length_map]; exact hi), List.getElem_map, cF_mod, cF_mul, gd_lt (r := a) hi]
  · rw [gd_ge (by unfold ownR; rw [List.length_map]; omega), gd_ge (r := a) (i := i) (by omega), cF_zero]
    grind
theorem less_row {p : Int} (hp : 0 < p) {x y : List Int} {n : Nat} (hx : x.length = n) (hy : y.length = n) (j : Nat) : (lessR p x y j).length = n ∧ ∀ v ∈ lessR p x y j, 0 ≤ v ∧ v < p := by
  refine ⟨by unfold lessR; rw [List.length_zipWith]; omega, fun v hv => ?_⟩
  unfold lessR at hv
  rw [List.mem_iff_getElem?] at hv
  obtain ⟨i, hi⟩ := hv
  rw [List.getElem?_zipWith] at hi
  split at hi
  · cases Option.some.inj hi
    exact ⟨Int.emod_nonneg _ (by omega), Int.emod_lt_of_pos _ hp⟩
  · cases hi
theorem own_row {p : Int} (hp : 0 < p) {a : List Int} {n : Nat} (ha : a.length = n) (j : Nat) : (ownR p a j).length = n ∧ ∀ v ∈ ownR p a j, 0 ≤ v ∧ v < p := by
  refine ⟨by unfold ownR; rw [List.length_map]; exact ha, fun v hv => ?_⟩
  unfold ownR at hv
  obtain ⟨r, _, rfl⟩ := List.mem_map.mp hv
  exact ⟨Int.emod_nonneg _ (by omega), Int.emod_lt_of_pos _ hp⟩
theorem step_rows {p : Int} (hp : 0 < p) {n : Nat} {st : List (List Int) × List (List Int)} (h1 : RowsOk p n st.1) (h2 : RowsOk p n st.2) (k : Nat) : RowsOk p n (stepR p st k).1 ∧ RowsOk p n (stepR p st k).2 ∧ (stepR p st k).1.length = st.1.length ∧ (stepR p st k).2.length ≤ st.2.length + 1 := by
  unfold stepR
  split
  · exact ⟨h1, h2, rfl, by omega⟩
  · rename_i a r hf
    obtain ⟨ha, _⟩ := filter_head hf
    have ho := own_row hp (h1 a ha).1 k
    refine ⟨fun x hx => ?_, fun x hx => ?_, by rw [List.length_map], by rw [List.length_append, List.length_map]; simp⟩
    · obtain ⟨y, my, rfl⟩ := List.mem_map.mp hx
      exact less_row hp (h1 y my).1 ho.1 k
    · rcases List.mem_append.mp hx with hx | hx
      · obtain ⟨y, my, rfl⟩ := List.mem_map.mp hx
        exact less_row hp (h2 y my).1 ho.1 k
      · have : x = ownR p a k := by simpa using hx
        rw [this]
        exact ho
/-- the steps of both sides -/
theorem step_sim {n : Nat} {st : List (List Int) × List (List Int)} {sv : List (Vec q) × List (Nat × Vec q)} (h1 : RowsOk q n st.1) (h2 : RowsOk q n st.2) (e1 : st.1.map (toV (q := q)) = sv.1) (e2 : st.2.map (toV (q := q)) = sv.2.map (·.2)) (k : Nat) :
    (stepR q st k).1.map (toV (q := q)) = (stepV invF sv k).1 ∧ (stepR q st k).2.map (toV (q := q)) = (stepV invF sv k).2.map (·.2) := by
  have hf : sv.1.filter (fun x => decide (x k ≠ 0)) = (st.1.filter (fun r => decide (r.getD k 0 ≠ 0))).map (toV (q := q)) := by
    rw [← e1, List.filter_map]
    congr 1
    apply List.filter_congr
    intro r hr
    have := cF_ne (q := q) (getD_lt q_pos (h1 r hr).2 k)
    show decide (cF (q := q) (r.getD k 0) ≠ 0) = decide (r.getD k 0 ≠ 0)
    simp only [this]
  unfold stepR stepV
  rw [hf]
  cases hl : st.1.filter (fun r => decide (r.getD k 0 ≠ 0)) with
  | nil => exact ⟨e1, e2⟩
  | cons a r =>
    obtain ⟨ha, _⟩ := filter_head hl
    have ho := own_row (q_pos (q := q)) (h1 a ha).1 k
    have eo : toV (q := q) (ownR q a k) = ownV invF (toV a) k := toV_own (h1 a ha).2 k
    simp only [List.map_cons]
    constructor
    · rw [← e1, List.map_map, List.map_map]
      apply List.map_congr_left
      intro x hx
      show toV (lessR q x (ownR q a k) k) = lessV (toV x) (ownV invF (toV a) k) k
      rw [toV_less (by rw [(h1 x hx).1, ho.1]), eo]
    · rw [List.map_append, List.map_append, List.map_map, List.map_map, List.map_cons, List.map_cons, List.map_nil, List.map_nil, eo]
      congr 1
      have e3 : sv.2.map ((fun b : Nat × Vec q => b.2) ∘ fun b => (b.1, lessV b.2 (ownV invF (toV a) k) k)) = (sv.2.map (·.2)).map fun v => lessV v (ownV invF (toV a) k) k := by
        rw [List.map_map]
        rfl
      rw [e3, ← e2, List.map_map]
      apply List.map_congr_left
      intro x hx
      show toV (lessR q x (ownR q a k) k) = lessV (toV x) (ownV invF (toV a) k) k
      rw [toV_less (by rw [(h2 x hx).1, ho.1]), eo]
theorem steps_sim {n : Nat} {rows : List (List Int)} (h : RowsOk q n rows) : ∀ k, RowsOk q n ((List.range k).foldl (stepR q) (rows, [])).1 ∧ RowsOk q n ((List.range k).foldl (stepR q) (rows, [])).2 ∧
    ((List.range k).foldl (stepR q) (rows, [])).1.map (toV (q := q)) = ((List.range k).foldl (stepV invF) (rows.map (toV (q := q)), [])).1 ∧ ((List.range k).foldl (stepR q) (rows, [])).2.map (toV (q := q)) = ((List.range k).foldl (stepV invF) (rows.map (toV (q := q)), [])).2.map (·.2)
  | 0 => ⟨h, fun r hr => (nomatch hr), rfl, rfl⟩
  | k + 1 => by
    obtain ⟨a, b, c, d⟩ := steps_sim h k
    rw [List.range_succ, List.foldl_append, List.foldl_append]
    obtain ⟨e1, e2, _, _⟩ := step_rows q_pos a b k
    obtain ⟨f1, f2⟩ := step_sim a b c d k
    exact ⟨e1, e2, f1, f2⟩
theorem plainR_rows {n : Nat} {rows : List (List Int)} (h : RowsOk q n rows) : RowsOk q n (plainR q n rows) := (steps_sim h n).2.1
theorem plainR_eq {n : Nat} {rows : List (List Int)} (h : RowsOk q n rows) : (plainR q n rows).map (toV (q := q)) = (plainV invF n (rows.map (toV (q := q)))).map (·.2) := (steps_sim h n).2.2.2
theorem rows_wid {n : Nat} {rows : List (List Int)} (h : RowsOk q n rows) : ∀ x ∈ rows.map (toV (q := q)), ∀ i, n ≤ i → x i = 0 := by
  intro x hx i hi
  obtain ⟨r, mr, rfl⟩ := List.mem_map.mp hx
  exact toV_wid (h r mr).1 i hi
/-- what rows make -/
def Mk (q : Nat) [NeZero q] (rows : List (List Int)) (x : Vec q) : Prop := Spn (rows.map (toV (q := q))) x
/-- a plain form -/
def IsPF (q : Nat) [NeZero q] (n : Nat) (room : List (List Int)) : Prop := RowsOk q n room ∧ ∃ bs : List (Nat × Vec q), PF n bs ∧ bs.map (·.2) = room.map (toV (q := q))
theorem plainR_pf (hF : Fld (q : Int)) {n : Nat} {rows : List (List Int)} (h : RowsOk q n rows) : IsPF q n (plainR q n rows) := ⟨plainR_rows h, _, plainV_pf invF (invF_ok hF) (rows_wid h), (plainR_eq h).symm⟩
theorem plainR_mk (hF : Fld (q : Int)) {n : Nat} {rows : List (List Int)} (h : RowsOk q n rows) (x : Vec q) : Mk q (plainR q n rows) x ↔ Mk q rows x := by
  unfold Mk
  rw [plainR_eq h]
  exact plainV_spn invF (invF_ok hF) (rows_wid h) x
theorem map_inj {n : Nat} : ∀ {xs ys : List (List Int)}, RowsOk q n xs → RowsOk q n ys → xs.map (toV (q := q)) = ys.map (toV (q := q)) → xs = ys
  | [], [], _, _, _ => rfl
  | [], _ :: _, _, _, e => by cases e
  | _ :: _, [], _, _, e => by cases e
  | x :: xs, y :: ys, hx, hy, e => by
    rw [List.map_cons, List.map_cons] at e
    have h1 := hx x List.mem_cons_self
    have h2 := hy y List.mem_cons_self
    have e1 : x = y := toV_inj (by rw [h1.1, h2.1]) h1.2 h2.2 (List.cons.inj e).1
    rw [e1, map_inj (fun r hr => hx r (List.mem_cons_of_mem _ hr)) (fun r hr => hy r (List.mem_cons_of_mem _ hr)) (List.cons.inj e).2]
/-- each room has just one plain form -/
theorem IsPF.uniq (hF : Fld (q : Int)) {n : Nat} {one other : List (List Int)} (h1 : IsPF q n one) (h2 : IsPF q n other) (h : ∀ x, Mk q one x ↔ Mk q other x) : one = other := by
  obtain ⟨r1, bs, b1, e1⟩ := h1
  obtain ⟨r2, cs, c1, e2⟩ := h2
  have h2' : (2 : Int) ≤ q := hF.1
  have e := b1.uniq (one_ne (by omega)) c1 fun x => by
    rw [e1, e2]
    exact h x
  exact map_inj r1 r2 (by rw [← e1, ← e2, e])
theorem IsPF.plain (hF : Fld (q : Int)) {n : Nat} {room rows : List (List Int)} (h1 : IsPF q n room) (h : RowsOk q n rows) (hm : ∀ x, Mk q room x ↔ Mk q rows x) : room = plainR q n rows :=
  h1.uniq hF (plainR_pf hF h) fun x => (hm x).trans (plainR_mk hF h x).symm
theorem plainR_len {n : Nat} {rows : List (List Int)} (h : RowsOk q n rows) : (plainR q n rows).length = (plainV invF n (rows.map (toV (q := q)))).length := by
  have := congrArg List.length (plainR_eq h)
  rw [List.length_map, List.length_map] at this
  exact this
theorem plainR_has (hF : Fld (q : Int)) {n : Nat} {rows : List (List Int)} {r : List Int} (h : RowsOk q n rows) (hr : RowsOk q n [r]) : (plainR q n (rows ++ [r])).length = (plainR q n rows).length ↔ Mk q rows (toV r) := by
  have h2 : (2 : Int) ≤ q := hF.1
  have hr' := hr r List.mem_cons_self
  have hall : RowsOk q n (rows ++ [r]) := fun x hx => by
    rcases List.mem_append.mp hx with h' | h'
    · exact h x h'
    · exact hr x h'
  rw [plainR_len h, plainR_len hall, List.map_append, List.map_cons, List.map_nil]
  exact plainV_has invF (one_ne (by omega)) (invF_ok hF) (rows_wid h) fun i hi => toV_wid hr'.1 i hi
end
end OC
/-! a row more: one first place more, or none; worlds that part -/
namespace Lin
set_option linter.all false
section
variable {p : Nat} [NeZero p]
theorem exists_lead {x : Vec p} : ∀ (j : Nat), x j ≠ 0 → ∃ k, k ≤ j ∧ Lead x k := by
  intro j
  induction j using Nat.strongRecOn with
  | _ j ih =>
    intro h
    by_cases hz : ∀ i, i < j → x i = 0
    · exact ⟨j, Nat.le_refl j, h, hz⟩
    · obtain ⟨i, hi⟩ := Classical.not_forall.mp hz
      have hi' : i < j ∧ x i ≠ 0 := Classical.not_imp.mp hi
      obtain ⟨k, hk, l⟩ := ih i hi'.1 hi'.2
      exact ⟨k, by omega, l⟩
/-- x less what the rows tell of it -/
def leftV (bs : List (Nat × Vec p)) (x : Vec p) : Vec p := fun i => x i - red bs x i
theorem left_at {n : Nat} {bs : List (Nat × Vec p)} (h : PF n bs) (x : Vec p) {c : Nat × Vec p} (hc : c ∈ bs) : leftV bs x c.1 = 0 := by
  show x c.1 - red bs x c.1 = 0
  rw [h.at x hc]
  grind
theorem left_zero {n : Nat} {bs : List (Nat × Vec p)} (h : PF n bs) (x : Vec p) : leftV bs x = zeroV ↔ Spn (bs.map (·.2)) x := by
  constructor
  · intro e
    have : x = red bs x := by
      funext i
      have h0 := congrFun e i
      have h0 : x i - red bs x i = 0 := h0
      grind
    rw [this]
    exact spn_red bs x
  · intro hx
    funext i
    show x i - red bs x i = 0
    rw [h.told hx]
    grind
/-- sums of a row of the room and of so many of v -/
theorem spn_more {vs : List (Vec p)} {v x : Vec p} (hx : Spn (vs ++ [v]) x) : ∃ s c, Spn vs s ∧ x = addV s (mulV c v) := by
  have hS : Sub (fun x : Vec p => ∃ s c, Spn vs s ∧ x = addV s (mulV c v)) := by
    refine ⟨⟨zeroV, 0, (spn_sub vs).zero, ?_⟩, ?_, ?_⟩
    · funext i
      show (0 : Fin p) = 0 + 0 * v i
      grind
    · rintro x y ⟨s, c, hs, rfl⟩ ⟨t, d, ht, rfl⟩
      refine ⟨addV s t, c + d, (spn_sub vs).add hs ht, ?_⟩
      funext i
      show s i + c * v i + (t i + d * v i) = s i + t i + (c + d) * v i
      grind
    · rintro d x ⟨s, c, hs, rfl⟩
      refine ⟨mulV d s, d * c, (spn_sub vs).mul d hs, ?_⟩
      funext i
      show d * (s i + c * v i) = d * s i + d * c * v i
      grind
  refine spn_le hS (fun w hw => ?_) hx
  rcases List.mem_append.mp hw with h | h
  · refine ⟨w, 0, spn_mem h, ?_⟩
    funext i
    show w i = w i + 0 * v i
    grind
  · have : w = v := by simpa using h
    subst this
    refine ⟨zeroV, 1, (spn_sub vs).zero, ?_⟩
    funext i
    show w i = 0 + 1 * w i
    grind
/-- the first places of a row of the greater room -/
theorem lead_more {n : Nat} {bs : List (Nat × Vec p)} (h : PF n bs) {v : Vec p} {j k : Nat} {x : Vec p} (hj : Lead (leftV bs v) j) (hfld : ∀ a b : Fin p, a * b = 0 → a = 0 ∨ b = 0) (hx : Spn (bs.map (·.2) ++ [v]) x) (hk : Lead x k) : (∃ b ∈ bs, b.1 = k) ∨ k = j := by
  obtain ⟨s, c, hs, rfl⟩ := spn_more hx
  -- with the left of v in its place
  have e : addV s (mulV c v) = addV (addV s (mulV c (red bs v))) (mulV c (leftV bs v)) := by
    funext i
    show s i + c * v i = s i + c * red bs v i + c * (v i - red bs v i)
    grind
  have hs' : Spn (bs.map (·.2)) (addV s (mulV c (red bs v))) := (spn_sub _).add hs ((spn_sub _).mul c (spn_red bs v))
  rw [e] at hk
  generalize addV s (mulV c (red bs v)) = t at hs' hk
  by_cases hc : c = 0
  · subst hc
    have e2 : addV t (mulV 0 (leftV bs v)) = t := by
      funext i
      show t i + 0 * leftV bs v i = t i
      grind
    rw [e2] at hk
    exact .inl (h.lead hs' hk)
  · have val : ∀ i, addV t (mulV c (leftV bs v)) i = t i + c * leftV bs v i := fun _ => rfl
    rcases Nat.lt_trichotomy k j with hlt | heq | hgt
    · have lt : Lead t k := by
        refine ⟨?_, fun i hi => ?_⟩
        · have h1 := hk.1
          rw [val, hj.2 k hlt] at h1
          intro z
          apply h1
          rw [z]
          grind
        · have h1 := hk.2 i hi
          rw [val, hj.2 i (by omega)] at h1
          grind
      exact .inl (h.lead hs' lt)
    · exact .inr heq
    · have lt : Lead t j := by
        refine ⟨fun z => ?_, fun i hi => ?_⟩
        · have h1 := hk.2 j hgt
          rw [val, z] at h1
          have h2 : c * leftV bs v j = 0 := by grind
          rcases hfld _ _ h2 with h3 | h3
          · exact hc h3
          · exact hj.1 h3
        · have h1 := hk.2 i (by omega)
          rw [val, hj.2 i hi] at h1
          grind
      obtain ⟨b, mb, eb⟩ := h.lead hs' lt
      have := left_at h v mb
      rw [eb] at this
      exact absurd this hj.1
theorem sorted_more {l m : List Nat} {j : Nat} (hl : l.Pairwise (· < ·)) (hm : m.Pairwise (· < ·)) (h : ∀ x ∈ l, x ∈ m ∨ x = j) : l.length ≤ m.length + 1 := by
  have nd : l.Nodup := hl.imp fun h => Nat.ne_of_lt h
  have s := List.erase_sublist (a := j) (l := l)
  have h1 := (sorted_len (hl.sublist s) hm fun x hx => by
    rcases h x (List.mem_of_mem_erase hx) with h | h
    · exact h
    · subst h
      exact absurd hx (List.Nodup.not_mem_erase nd)).1
  have h2 := List.length_erase (a := j) (l := l)
  split at h2 <;> omega
variable (inv : Fin p → Fin p)
/-- a row more that is not made: one row more -/
theorem plainV_more {n : Nat} {vs : List (Vec p)} {v : Vec p} (h1 : (1 : Fin p) ≠ 0) (hinv : ∀ a : Fin p, a ≠ 0 → inv a * a = 1) (hw : ∀ x ∈ vs, ∀ i, n ≤ i → x i = 0) (hv : ∀ i, n ≤ i → v i = 0) (hn : ¬ Spn vs v) :
    (plainV inv n (vs ++ [v])).length = (plainV inv n vs).length + 1 := by
  have hfld : ∀ a b : Fin p, a * b = 0 → a = 0 ∨ b = 0 := fun a b e => by
    by_cases ha : a = 0
    · exact .inl ha
    · have := hinv a ha
      refine .inr ?_
      have : b = inv a * (a * b) := by grind
      rw [e] at this
      grind
  have hw' : ∀ x ∈ vs ++ [v], ∀ i, n ≤ i → x i = 0 := fun x hx => by
    rcases List.mem_append.mp hx with h | h
    · exact hw x h
    · have : x = v := by simpa using h
      rw [this]
      exact hv
  have A := plainV_pf inv hinv hw
  have B := plainV_pf inv hinv hw'
  have sa := plainV_spn inv hinv hw
  have sb := plainV_spn inv hinv hw'
  have ne : leftV (plainV inv n vs) v ≠ zeroV := fun e => hn ((sa v).mp ((left_zero A v).mp e))
  obtain ⟨j0, hj0⟩ : ∃ j, leftV (plainV inv n vs) v j ≠ 0 := by
    apply Classical.byContradiction
    intro hz
    apply ne
    funext i
    exact Classical.byContradiction fun q => hz ⟨i, q⟩
  obtain ⟨j, _, hj⟩ := exists_lead j0 hj0
  have up : (plainV inv n (vs ++ [v])).length ≤ (plainV inv n vs).length + 1 := by
    have := sorted_more (j := j) (List.pairwise_map.mpr B.inc) (List.pairwise_map.mpr A.inc) fun x hx => by
      obtain ⟨b, mb, rfl⟩ := List.mem_map.mp hx
      have hb : Spn ((plainV inv n vs).map (·.2) ++ [v]) b.2 := by
        refine spn_append (spn_sub _) (fun y hy => spn_left ((sa y).mpr hy)) (fun y hy => spn_right hy) b.2 ((sb b.2).mp (spn_mem (List.mem_map_of_mem mb)))
      rcases lead_more A hj hfld hb (B.leads h1 mb) with ⟨c, mc, e⟩ | e
      · exact .inl (List.mem_map.mpr ⟨c, mc, e⟩)
      · exact .inr e
    rw [List.length_map, List.length_map] at this
    exact this
  have low : (plainV inv n vs).length ≤ (plainV inv n (vs ++ [v])).length := plainV_len_le inv h1 hinv hw hw' fun x hx => spn_left hx
  have neq : (plainV inv n (vs ++ [v])).length ≠ (plainV inv n vs).length := fun e => hn ((plainV_has inv h1 hinv hw hv).mp e)
  omega
/-! ### worth: the sum over the places -/
def dot : Nat → Vec p → Vec p → Fin p
  | 0, _, _ => 0
  | n + 1, x, y => dot n x y + x n * y n
theorem dot_add (n : Nat) (x y w : Vec p) : dot n (addV x y) w = dot n x w + dot n y w := by
  induction n with
  | zero => simp only [dot]; grind
  | succ n ih =>
    simp only [dot]
    rw [ih]
    show dot n x w + dot n y w + (x n + y n) * w n = dot n x w + x n * w n + (dot n y w + y n * w n)
    grind
theorem dot_mul (n : Nat) (c : Fin p) (x w : Vec p) : dot n (mulV c x) w = c * dot n x w := by
  induction n with
  | zero => simp only [dot]; grind
  | succ n ih =>
    simp only [dot]
    rw [ih]
    show c * dot n x w + c * x n * w n = c * (dot n x w + x n * w n)
    grind
theorem dot_comm (n : Nat) (x y : Vec p) : dot n x y = dot n y x := by
  induction n with
  | zero => rfl
  | succ n ih =>
    simp only [dot]
    rw [ih]
    grind
theorem dot_zero (n : Nat) (w : Vec p) : dot n zeroV w = 0 := by
  induction n with
  | zero => rfl
  | succ n ih =>
    simp only [dot]
    rw [ih]
    show (0 : Fin p) + 0 * w n = 0
    grind
theorem dot_sub (n : Nat) (w : Vec p) (c : Fin p) : Sub (fun x : Vec p => dot n x w = 0) := by
  refine ⟨dot_zero n w, fun {x y} hx hy => ?_, fun c {x} hx => ?_⟩
  · show dot n (addV x y) w = 0
    rw [dot_add, hx, hy]
    grind
  · show dot n (mulV c x) w = 0
    rw [dot_mul, hx]
    grind
end
end Lin
/-! worlds that part; sizes of sums and of what two rooms share -/
namespace Lin
set_option linter.all false
section
variable {p : Nat} [NeZero p]
def unitV (j : Nat) : Vec p := fun i => if i = j then 1 else 0
theorem dot_unit (n : Nat) (x : Vec p) (j : Nat) : dot n x (unitV j) = if j < n then x j else 0 := by
  induction n with
  | zero => simp [dot]
  | succ n ih =>
    simp only [dot]
    rw [ih]
    unfold unitV
    by_cases h1 : n = j
    · subst h1
      rw [if_neg (Nat.lt_irrefl n), if_pos (Nat.lt_succ_self n)]
      simp only [if_true]
      grind
    · rw [if_neg h1]
      by_cases h2 : j < n
      · rw [if_pos h2, if_pos (by omega)]
        grind
      · rw [if_neg h2, if_neg (by omega)]
        grind
/-- the world at which a row is worth what is left of it at the place j -/
def crossV : List (Nat × Vec p) → Nat → Vec p
  | [], j => unitV j
  | b :: bs, j => addV (mulV (-(b.2 j)) (unitV b.1)) (crossV bs j)
theorem dot_cross (n : Nat) : ∀ (bs : List (Nat × Vec p)) (x : Vec p) (j : Nat), (∀ b ∈ bs, b.1 < n) → j < n → dot n x (crossV bs j) = leftV bs x j
  | [], x, j, _, hj => by
    simp only [crossV]
    rw [dot_unit, if_pos hj]
    show x j = x j - 0
    grind
  | b :: bs, x, j, hb, hj => by
    have ih := dot_cross n bs x j (fun c hc => hb c (List.mem_cons_of_mem _ hc)) hj
    simp only [crossV]
    rw [dot_comm, dot_add, dot_mul, dot_comm n (unitV b.1) x, dot_comm n (crossV bs j) x, ih, dot_unit, if_pos (hb b List.mem_cons_self)]
    show -(b.2 j) * x b.1 + (x j - red bs x j) = x j - (x b.1 * b.2 j + red bs x j)
    grind
theorem cross_wid : ∀ (bs : List (Nat × Vec p)) (n j : Nat), (∀ b ∈ bs, b.1 < n) → j < n → ∀ i, n ≤ i → crossV bs j i = 0
  | [], n, j, _, hj, i, hi => by
    show (if i = j then (1 : Fin p) else 0) = 0
    rw [if_neg (by omega)]
  | b :: bs, n, j, hb, hj, i, hi => by
    have ih := cross_wid bs n j (fun c hc => hb c (List.mem_cons_of_mem _ hc)) hj i hi
    have := hb b List.mem_cons_self
    show -(b.2 j) * (if i = b.1 then (1 : Fin p) else 0) + crossV bs j i = 0
    rw [if_neg (by omega), ih]
    grind
/-! ### sizes -/
variable (inv : Fin p → Fin p)
/-- what a list of rows needs: the size of their room -/
def dim (n : Nat) (vs : List (Vec p)) : Nat := (plainV inv n vs).length
structure Good (n : Nat) : Prop where
  one : (1 : Fin p) ≠ 0
  inv : ∀ a : Fin p, a ≠ 0 → inv a * a = 1
def Wid (n : Nat) (vs : List (Vec p)) : Prop := ∀ x ∈ vs, ∀ i, n ≤ i → x i = 0
theorem Wid.app {n : Nat} {vs ws : List (Vec p)} (h1 : Wid n vs) (h2 : Wid n ws) : Wid n (vs ++ ws) := fun x hx => (List.mem_append.mp hx).elim (h1 x) (h2 x)
theorem Wid.one {n : Nat} {v : Vec p} (h : ∀ i, n ≤ i → v i = 0) : Wid n [v] := fun x hx => by
  have : x = v := by simpa using hx
  rw [this]
  exact h
variable {inv}
theorem Good.same {n : Nat} (g : Good inv n) {vs ws : List (Vec p)} (hv : Wid n vs) (hw : Wid n ws) (h : ∀ x, Spn vs x ↔ Spn ws x) : dim inv n vs = dim inv n ws :=
  Nat.le_antisymm (plainV_len_le inv g.one g.inv hv hw fun x hx => (h x).mp hx) (plainV_len_le inv g.one g.inv hw hv fun x hx => (h x).mpr hx)
theorem Good.le {n : Nat} (g : Good inv n) {vs ws : List (Vec p)} (hv : Wid n vs) (hw : Wid n ws) (h : ∀ x, Spn vs x → Spn ws x) : dim inv n vs ≤ dim inv n ws := plainV_len_le inv g.one g.inv hv hw h
theorem Good.in_ {n : Nat} (g : Good inv n) {vs : List (Vec p)} {v : Vec p} (hv : Wid n vs) (hw : ∀ i, n ≤ i → v i = 0) (h : Spn vs v) : dim inv n (vs ++ [v]) = dim inv n vs := (plainV_has inv g.one g.inv hv hw).mpr h
theorem Good.out {n : Nat} (g : Good inv n) {vs : List (Vec p)} {v : Vec p} (hv : Wid n vs) (hw : ∀ i, n ≤ i → v i = 0) (h : ¬ Spn vs v) : dim inv n (vs ++ [v]) = dim inv n vs + 1 := plainV_more inv g.one g.inv hv hw h
theorem dim_nil (n : Nat) : dim inv n ([] : List (Vec p)) = 0 := by
  have h : ∀ k, (List.range k).foldl (stepV inv) (([] : List (Vec p)), []) = ([], []) := by
    intro k
    induction k with
    | zero => rfl
    | succ k ih =>
      rw [List.range_succ, List.foldl_append, ih]
      rfl
  unfold dim plainV
  rw [h n]
  rfl
theorem spn_app {vs ws : List (Vec p)} {x : Vec p} : Spn (vs ++ ws) x ↔ ∃ s t, Spn vs s ∧ Spn ws t ∧ x = addV s t := by
  constructor
  · intro hx
    have hS : Sub (fun x : Vec p => ∃ s t, Spn vs s ∧ Spn ws t ∧ x = addV s t) := by
      refine ⟨⟨zeroV, zeroV, (spn_sub vs).zero, (spn_sub ws).zero, (zero_add _).symm⟩, ?_, ?_⟩
      · rintro x y ⟨s, t, hs, ht, rfl⟩ ⟨s', t', hs', ht', rfl⟩
        refine ⟨addV s s', addV t t', (spn_sub vs).add hs hs', (spn_sub ws).add ht ht', ?_⟩
        funext i
        show s i + t i + (s' i + t' i) = s i + s' i + (t i + t' i)
        grind
      · rintro c x ⟨s, t, hs, ht, rfl⟩
        refine ⟨mulV c s, mulV c t, (spn_sub vs).mul c hs, (spn_sub ws).mul c ht, ?_⟩
        funext i
        show c * (s i + t i) = c * s i + c * t i
        grind
    refine spn_le hS (fun w hw => ?_) hx
    rcases List.mem_append.mp hw with h | h
    · refine ⟨w, zeroV, spn_mem h, (spn_sub ws).zero, ?_⟩
      funext i
      show w i = w i + 0
      grind
    · exact ⟨zeroV, w, (spn_sub vs).zero, spn_mem h, (zero_add w).symm⟩
  · rintro ⟨s, t, hs, ht, rfl⟩
    exact (spn_sub _).add (spn_left hs) (spn_right ht)
/-- what two rooms share: rows that make it, and the sizes -/
theorem Good.meet {n : Nat} (g : Good inv n) {us : List (Vec p)} (hu : Wid n us) : ∀ (m : Nat) (ws : List (Vec p)), ws.length = m → Wid n ws → ∃ ks, Wid n ks ∧ (∀ x, Spn ks x ↔ Spn us x ∧ Spn ws x) ∧ dim inv n (us ++ ws) + dim inv n ks = dim inv n us + dim inv n ws
  | 0, ws, hl, hw => by
    have e : ws = [] := List.eq_nil_of_length_eq_zero hl
    subst e
    refine ⟨[], fun x hx => (nomatch hx), fun x => ⟨fun hx => ⟨?_, hx⟩, fun hx => hx.2⟩, ?_⟩
    · obtain ⟨fs, e⟩ := hx
      rw [e, lin_nil']
      exact (spn_sub us).zero
    · rw [List.append_nil, dim_nil]
  | m + 1, ws, hl, hw => by
    obtain ⟨ws', w, rfl⟩ : ∃ ws' w, ws = ws' ++ [w] := by
      rcases List.eq_nil_or_concat ws with e | ⟨l, b, e⟩
      · rw [e] at hl
        cases hl
      · exact ⟨l, b, by rw [e, List.concat_eq_append]⟩
    have hw' : Wid n ws' := fun x hx => hw x (List.mem_append_left _ hx)
    have hww : ∀ i, n ≤ i → w i = 0 := hw w (by simp)
    obtain ⟨ks, hk, sk, dk⟩ := meet g hu m ws' (by simpa using hl) hw'
    rw [← List.append_assoc]
    by_cases h1 : Spn ws' w
    · have same : ∀ x, Spn (ws' ++ [w]) x ↔ Spn ws' x := fun x => ⟨fun hx => spn_append (spn_sub ws') (fun _ h => h) (fun y hy => spn_sub_of (fun z hz => by
        have : z = w := by simpa using hz
        rw [this]
        exact h1) hy) x hx, spn_left⟩
      refine ⟨ks, hk, fun x => (sk x).trans ⟨fun h => ⟨h.1, (same x).mpr h.2⟩, fun h => ⟨h.1, (same x).mp h.2⟩⟩, ?_⟩
      rw [g.in_ (hu.app hw') hww (spn_right h1), g.in_ hw' hww h1]
      exact dk
    · rw [g.out hw' hww h1]
      by_cases h2 : Spn (us ++ ws') w
      · rw [g.in_ (hu.app hw') hww h2]
        obtain ⟨u, v, su, sv, ew⟩ := spn_app.mp h2
        -- u = w - v is shared
        have eu : u = fun i => w i - 1 * v i := by
          funext i
          have := congrFun ew i
          have this : w i = u i + v i := this
          grind
        have uw : Spn (ws' ++ [w]) u := by
          rw [eu]
          exact (spn_sub _).less 1 (spn_right (spn_mem (by simp))) (spn_left sv)
        have nu : ¬ Spn ws' u := fun hu' => h1 (by rw [ew]; exact (spn_sub _).add hu' sv)
        have wu : ∀ i, n ≤ i → u i = 0 := fun i hi => by
          have h := hu
          have hz : Sub (fun x : Vec p => x i = 0) := ⟨rfl, fun {x y} hx hy => by show x i + y i = 0; rw [hx, hy]; grind, fun c {x} hx => by show c * x i = 0; rw [hx]; grind⟩
          exact spn_le hz (fun x hx => h x hx i hi) su
        refine ⟨ks ++ [u], hk.app (Wid.one wu), fun x => ⟨fun hx => ?_, fun hx => ?_⟩, ?_⟩
        · have s1 : Sub (fun x : Vec p => Spn us x ∧ Spn (ws' ++ [w]) x) := ⟨⟨(spn_sub _).zero, (spn_sub _).zero⟩, fun {x y} hx hy => ⟨(spn_sub _).add hx.1 hy.1, (spn_sub _).add hx.2 hy.2⟩, fun c {x} hx => ⟨(spn_sub _).mul c hx.1, (spn_sub _).mul c hx.2⟩⟩
          refine spn_le s1 (fun y hy => ?_) hx
          rcases List.mem_append.mp hy with hy | hy
          · have := (sk y).mp (spn_mem hy)
            exact ⟨this.1, spn_left this.2⟩
          · have : y = u := by simpa using hy
            rw [this]
            exact ⟨su, uw⟩
        · obtain ⟨s, c, hs, ex⟩ := spn_more hx.2
          -- x - c u is in both
          have hy : Spn us (fun i => x i - c * u i) := (spn_sub _).less c hx.1 su
          have hy2 : Spn ws' (fun i => x i - c * u i) := by
            have e : (fun i => x i - c * u i) = addV s (mulV c v) := by
              funext i
              have e1 := congrFun ex i
              have e2 := congrFun ew i
              have e1 : x i = s i + c * w i := e1
              have e2 : w i = u i + v i := e2
              show x i - c * u i = s i + c * v i
              grind
            rw [e]
            exact (spn_sub _).add hs ((spn_sub _).mul c sv)
          have hk2 := (sk _).mpr ⟨hy, hy2⟩
          have e : x = addV (fun i => x i - c * u i) (mulV c u) := by
            funext i
            show x i = x i - c * u i + c * u i
            grind
          rw [e]
          exact (spn_sub _).add (spn_left hk2) ((spn_sub _).mul c (spn_right (spn_mem (by simp))))
        · have nk : ¬ Spn ks u := fun h => nu ((sk u).mp h).2
          rw [g.out hk wu nk]
          omega
      · rw [g.out (hu.app hw') hww h2]
        refine ⟨ks, hk, fun x => (sk x).trans ⟨fun h => ⟨h.1, spn_left h.2⟩, fun h => ⟨h.1, ?_⟩⟩, by omega⟩
        obtain ⟨s, c, hs, ex⟩ := spn_more h.2
        by_cases hc : c = 0
        · subst hc
          have e : x = s := by
            rw [ex]
            funext i
            show s i + 0 * w i = s i
            grind
          rw [e]
          exact hs
        · -- w would be made of both
          exfalso
          apply h2
          have hi := g.inv c hc
          have e : w = fun i => mulV (inv c) x i - inv c * s i := by
            funext i
            have e1 := congrFun ex i
            have e1 : x i = s i + c * w i := e1
            show w i = inv c * x i - inv c * s i
            grind
          rw [e]
          exact (spn_sub _).less (inv c) ((spn_sub _).mul (inv c) (spn_left h.1)) (spn_right hs)
end
end Lin
/-! across: the worlds at which all rows of a room are worth 0 -/
namespace Lin
set_option linter.all false
section
variable {p : Nat} [NeZero p] {inv : Fin p → Fin p}
theorem dot_single {n : Nat} {x y : Vec p} {k : Nat} (hk : k < n) (h : ∀ i, i < n → i ≠ k → x i * y i = 0) : dot n x y = x k * y k := by
  have go : ∀ m, m ≤ n → dot m x y = if k < m then x k * y k else 0 := by
    intro m
    induction m with
    | zero => intro _; simp [dot]
    | succ m ih =>
      intro hm
      simp only [dot]
      rw [ih (by omega)]
      by_cases e : m = k
      · subst e
        rw [if_neg (Nat.lt_irrefl m), if_pos (Nat.lt_succ_self m)]
        grind
      · rw [h m (by omega) e]
        by_cases h2 : k < m
        · rw [if_pos h2, if_pos (by omega)]
          grind
        · rw [if_neg h2, if_neg (by omega)]
          grind
  rw [go n (Nat.le_refl n), if_pos hk]
theorem cross_free : ∀ (l : List (Nat × Vec p)) (j i : Nat), (∀ b ∈ l, b.1 ≠ i) → crossV l j i = if i = j then 1 else 0
  | [], j, i, _ => rfl
  | b :: l, j, i, h => by
    have ih := cross_free l j i fun c hc => h c (List.mem_cons_of_mem _ hc)
    show -(b.2 j) * (if i = b.1 then (1 : Fin p) else 0) + crossV l j i = _
    rw [if_neg (Ne.symm (h b List.mem_cons_self)), ih]
    grind
/-- whether a place is a first place of a row -/
def isFirst (bs : List (Nat × Vec p)) (j : Nat) : Bool := decide (j ∈ bs.map (·.1))
/-- the places that are first places of no row -/
def frees (n : Nat) (bs : List (Nat × Vec p)) : List Nat := (List.range n).filter fun j => !isFirst bs j
theorem mem_frees {n : Nat} {bs : List (Nat × Vec p)} {j : Nat} : j ∈ frees n bs ↔ j < n ∧ ∀ b ∈ bs, b.1 ≠ j := by
  unfold frees isFirst
  rw [List.mem_filter, List.mem_range]
  constructor
  · rintro ⟨h1, h2⟩
    refine ⟨h1, fun b hb e => ?_⟩
    rw [decide_eq_true (List.mem_map.mpr ⟨b, hb, e⟩)] at h2
    cases h2
  · rintro ⟨h1, h2⟩
    refine ⟨h1, ?_⟩
    rw [decide_eq_false fun hm => ?_]
    · rfl
    · obtain ⟨b, mb, e⟩ := List.mem_map.mp hm
      exact h2 b mb e
theorem filter_split (q : Nat → Bool) : ∀ l : List Nat, l.length = (l.filter q).length + (l.filter fun x => !q x).length
  | [] => rfl
  | a :: l => by
    have ih := filter_split q l
    by_cases hq : q a = true
    · rw [List.filter_cons_of_pos hq, List.filter_cons_of_neg (by rw [hq]; decide), List.length_cons, List.length_cons]
      omega
    · have hq' : q a = false := by simpa using hq
      rw [List.filter_cons_of_neg hq, List.filter_cons_of_pos (by rw [hq']; rfl), List.length_cons, List.length_cons]
      omega
theorem frees_len {n : Nat} {bs : List (Nat × Vec p)} (h : PF n bs) : (frees n bs).length + bs.length = n := by
  have e : (List.range n).filter (isFirst bs) = bs.map (·.1) := by
    refine sorted_eq (List.Pairwise.filter _ List.pairwise_lt_range) (List.pairwise_map.mpr h.inc) fun x => ?_
    rw [List.mem_filter, List.mem_range]
    constructor
    · rintro ⟨_, h2⟩
      exact of_decide_eq_true h2
    · intro hx
      obtain ⟨b, mb, e⟩ := List.mem_map.mp hx
      exact ⟨by rw [← e]; exact h.lt b mb, decide_eq_true hx⟩
  have h1 := filter_split (isFirst bs) (List.range n)
  rw [e, List.length_range, List.length_map] at h1
  unfold frees
  omega
/-- so many of each of the worlds by the free places -/
def tellV (bs : List (Nat × Vec p)) (w : Vec p) : List Nat → Vec p
  | [] => zeroV
  | j :: js => addV (mulV (w j) (crossV bs j)) (tellV bs w js)
theorem tell_spn (bs : List (Nat × Vec p)) (w : Vec p) : ∀ js : List Nat, Spn (js.map (crossV bs)) (tellV bs w js)
  | [] => (spn_sub _).zero
  | j :: js => (spn_sub _).add ((spn_sub _).mul _ (spn_mem (by simp))) (spn_tail (tell_spn bs w js))
theorem tell_free (bs : List (Nat × Vec p)) (w : Vec p) {i : Nat} (hi : ∀ b ∈ bs, b.1 ≠ i) : ∀ js : List Nat, js.Nodup → tellV bs w js i = if i ∈ js then w i else 0
  | [], _ => rfl
  | j :: js, nd => by
    have nd' := List.nodup_cons.mp nd
    have ih := tell_free bs w hi js nd'.2
    show w j * crossV bs j i + tellV bs w js i = _
    rw [ih, cross_free bs j i hi]
    by_cases e : i = j
    · subst e
      rw [if_pos rfl, if_neg nd'.1, if_pos List.mem_cons_self]
      grind
    · rw [if_neg e]
      by_cases hm : i ∈ js
      · rw [if_pos hm, if_pos (List.mem_cons_of_mem _ hm)]
        grind
      · rw [if_neg hm, if_neg (by simp [e, hm])]
        grind
/-- worlds at which all rows of a room are worth 0 -/
def Perp (n : Nat) (S : Vec p → Prop) (w : Vec p) : Prop := (∀ i, n ≤ i → w i = 0) ∧ ∀ x, S x → dot n x w = 0
theorem perp_sub (n : Nat) (S : Vec p → Prop) : Sub (Perp n S) := by
  refine ⟨⟨fun _ _ => rfl, fun x _ => by rw [dot_comm, dot_zero]⟩, fun {x y} hx hy => ⟨fun i hi => ?_, fun z hz => ?_⟩, fun c {x} hx => ⟨fun i hi => ?_, fun z hz => ?_⟩⟩
  · show x i + y i = 0
    rw [hx.1 i hi, hy.1 i hi]
    grind
  · rw [dot_comm, dot_add, dot_comm n x z, dot_comm n y z, hx.2 z hz, hy.2 z hz]
    grind
  · show c * x i = 0
    rw [hx.1 i hi]
    grind
  · rw [dot_comm, dot_mul, dot_comm n x z, hx.2 z hz]
    grind
theorem PF.cross_perp {n : Nat} {bs : List (Nat × Vec p)} (h : PF n bs) {j : Nat} (hj : j < n) : Perp n (Spn (bs.map (·.2))) (crossV bs j) :=
  ⟨cross_wid bs n j h.lt hj, fun x hx => by rw [dot_cross n bs x j h.lt hj, (left_zero h x).mpr hx]; rfl⟩
theorem frees_nodup (n : Nat) (bs : List (Nat × Vec p)) : (frees n bs).Nodup := (List.nodup_range).filter _
/-- the worlds by the free places make them all -/
theorem PF.perp_spn {n : Nat} {bs : List (Nat × Vec p)} (h : PF n bs) (w : Vec p) : Spn ((frees n bs).map (crossV bs)) w ↔ Perp n (Spn (bs.map (·.2))) w := by
  constructor
  · intro hw
    refine spn_le (perp_sub n _) (fun v hv => ?_) hw
    obtain ⟨j, mj, rfl⟩ := List.mem_map.mp hv
    exact h.cross_perp (mem_frees.mp mj).1
  · intro hw
    have ht : Perp n (Spn (bs.map (·.2))) (tellV bs w (frees n bs)) := spn_le (perp_sub n _) (fun v hv => by
      obtain ⟨j, mj, rfl⟩ := List.mem_map.mp hv
      exact h.cross_perp (mem_frees.mp mj).1) (tell_spn bs w (frees n bs))
    have hd : Perp n (Spn (bs.map (·.2))) (fun i => w i - 1 * tellV bs w (frees n bs) i) := (perp_sub n _).less 1 hw ht
    have z1 : ∀ i, i < n → (∀ b ∈ bs, b.1 ≠ i) → w i - 1 * tellV bs w (frees n bs) i = 0 := fun i hi hb => by
      rw [tell_free bs w hb _ (frees_nodup n bs), if_pos (mem_frees.mpr ⟨hi, hb⟩)]
      grind
    have z2 : ∀ c ∈ bs, w c.1 - 1 * tellV bs w (frees n bs) c.1 = 0 := fun c hc => by
      have h0 := hd.2 c.2 (spn_mem (List.mem_map_of_mem hc))
      rw [dot_single (h.lt c hc) fun i hi ne => ?_] at h0
      · rw [h.one c hc] at h0
        grind
      · by_cases hp : ∃ b ∈ bs, b.1 = i
        · obtain ⟨b, mb, rfl⟩ := hp
          rw [h.off c hc b mb (Ne.symm ne)]
          grind
        · rw [z1 i hi fun b mb e => hp ⟨b, mb, e⟩]
          grind
    have e : w = tellV bs w (frees n bs) := by
      funext i
      rcases Nat.lt_or_ge i n with hi | hi
      · by_cases hp : ∃ b ∈ bs, b.1 = i
        · obtain ⟨b, mb, rfl⟩ := hp
          have := z2 b mb
          grind
        · have := z1 i hi fun b mb e => hp ⟨b, mb, e⟩
          grind
      · rw [hw.1 i hi, ht.1 i hi]
    rw [e]
    exact tell_spn bs w _
/-- rows each with a place of its own, at which those ahead have 0: none is made by those ahead -/
theorem Good.own_places {n : Nat} (g : Good inv n) (bs : List (Nat × Vec p)) (hw : ∀ j, j < n → ∀ i, n ≤ i → crossV bs j i = 0) : ∀ (m : Nat) (js : List Nat), js.length = m → js.Nodup → (∀ j ∈ js, j < n ∧ ∀ b ∈ bs, b.1 ≠ j) → dim inv n (js.map (crossV bs)) = js.length
  | 0, js, hl, _, _ => by
    have e : js = [] := List.eq_nil_of_length_eq_zero hl
    subst e
    exact dim_nil n
  | m + 1, js, hl, nd, hf => by
    obtain ⟨js', j, rfl⟩ : ∃ js' j, js = js' ++ [j] := by
      rcases List.eq_nil_or_concat js with e | ⟨l, b, e⟩
      · rw [e] at hl
        cases hl
      · exact ⟨l, b, by rw [e, List.concat_eq_append]⟩
    have nd' : js'.Nodup := (List.nodup_append.mp nd).1
    have nj : j ∉ js' := fun hm => (List.nodup_append.mp nd).2.2 j hm j (by simp) rfl
    have hf' : ∀ k ∈ js', k < n ∧ ∀ b ∈ bs, b.1 ≠ k := fun k hk => hf k (List.mem_append_left _ hk)
    have hj := hf j (by simp)
    have ih := own_places g bs hw m js' (by simpa using hl) nd' hf'
    have wd : Wid n (js'.map (crossV bs)) := fun x hx => by
      obtain ⟨k, mk, rfl⟩ := List.mem_map.mp hx
      exact hw k (hf' k mk).1
    rw [List.map_append, List.map_cons, List.map_nil, g.out wd (hw j hj.1) fun hs => ?_, ih]
    · simp
    · have hz : Sub (fun x : Vec p => x j = 0) := ⟨rfl, fun {x y} hx hy => by show x j + y j = 0; rw [hx, hy]; grind, fun c {x} hx => by show c * x j = 0; rw [hx]; grind⟩
      have h0 : crossV bs j j = 0 := spn_le hz (fun v hv => by
        obtain ⟨k, mk, rfl⟩ := List.mem_map.mp hv
        rw [cross_free bs k j hj.2, if_neg (fun e => nj (by rw [e]; exact mk))]) hs
      rw [cross_free bs j j hj.2, if_pos rfl] at h0
      exact g.one h0
theorem Good.perp_dim {n : Nat} (g : Good inv n) {bs : List (Nat × Vec p)} (h : PF n bs) : dim inv n ((frees n bs).map (crossV bs)) + bs.length = n := by
  rw [g.own_places bs (fun j hj => cross_wid bs n j h.lt hj) _ _ rfl (frees_nodup n bs) fun j hj => mem_frees.mp hj]
  exact frees_len h
theorem Good.pf_dim {n : Nat} (g : Good inv n) {bs : List (Nat × Vec p)} (h : PF n bs) : dim inv n (bs.map (·.2)) = bs.length := by
  have hw : Wid n (bs.map (·.2)) := fun x hx => by
    obtain ⟨b, mb, rfl⟩ := List.mem_map.mp hx
    exact h.wid b mb
  have e := h.uniq g.one (plainV_pf inv g.inv hw) fun x => (plainV_spn inv g.inv hw x).symm
  unfold dim
  rw [← e]
/-- across of across is the room again -/
theorem Good.perp_perp {n : Nat} (g : Good inv n) {bs cs : List (Nat × Vec p)} (hb : PF n bs) (hc : PF n cs) (h : ∀ w, Spn (cs.map (·.2)) w ↔ Perp n (Spn (bs.map (·.2))) w) (x : Vec p) : Perp n (Spn (cs.map (·.2))) x ↔ Spn (bs.map (·.2)) x := by
  have hbw : ∀ y, Spn (bs.map (·.2)) y → ∀ i, n ≤ i → y i = 0 := fun y hy i hi => by
    have hz : Sub (fun x : Vec p => x i = 0) := ⟨rfl, fun {x y} hx hy => by show x i + y i = 0; rw [hx, hy]; grind, fun c {x} hx => by show c * x i = 0; rw [hx]; grind⟩
    refine spn_le hz (fun v hv => ?_) hy
    obtain ⟨b, mb, rfl⟩ := List.mem_map.mp hv
    exact hb.wid b mb i hi
  have sub : ∀ y, Spn (bs.map (·.2)) y → Perp n (Spn (cs.map (·.2))) y := fun y hy => ⟨hbw y hy, fun w hw => by rw [dot_comm]; exact ((h w).mp hw).2 y hy⟩
  refine ⟨fun hx => ?_, sub x⟩
  -- sizes: n - (n - s)
  have wc : Wid n ((frees n cs).map (crossV cs)) := fun y hy => by
    obtain ⟨k, mk, rfl⟩ := List.mem_map.mp hy
    exact cross_wid cs n k hc.lt (mem_frees.mp mk).1
  have wb : Wid n ((frees n bs).map (crossV bs)) := fun y hy => by
    obtain ⟨k, mk, rfl⟩ := List.mem_map.mp hy
    exact cross_wid bs n k hb.lt (mem_frees.mp mk).1
  have d1 := g.perp_dim hb
  have d2 := g.perp_dim hc
  have wcs : Wid n (cs.map (·.2)) := fun x hx => by
    obtain ⟨b, mb, rfl⟩ := List.mem_map.mp hx
    exact hc.wid b mb
  have d3 : dim inv n ((frees n bs).map (crossV bs)) = cs.length := by
    rw [g.same wb wcs fun w => (hb.perp_spn w).trans (h w).symm, g.pf_dim hc]
  have hP := plainV_pf inv g.inv wc
  have sP := plainV_spn inv g.inv wc
  have := hb.same_of_len hP g.one (fun y hy => (sP y).mpr ((hc.perp_spn y).mpr (sub y hy))) (by
    show dim inv n ((frees n cs).map (crossV cs)) ≤ bs.length
    omega) ((sP x).mpr ((hc.perp_spn x).mpr hx))
  exact this
/-- across of both rooms joined is what their across share -/
theorem perp_app {n : Nat} {us ws : List (Vec p)} (w : Vec p) : Perp n (Spn (us ++ ws)) w ↔ Perp n (Spn us) w ∧ Perp n (Spn ws) w := by
  constructor
  · intro h
    exact ⟨⟨h.1, fun x hx => h.2 x (spn_left hx)⟩, ⟨h.1, fun x hx => h.2 x (spn_right hx)⟩⟩
  · rintro ⟨h1, h2⟩
    refine ⟨h1.1, fun x hx => ?_⟩
    obtain ⟨s, t, hs, ht, rfl⟩ := spn_app.mp hx
    rw [dot_add, h1.2 s hs, h2.2 t ht]
    grind
end
end Lin
/-! Which of some rows are needed: those that the ones ahead of them don't make. -/
namespace OC
open Lin
theorem snoc_ind {α : Type} {P : List α → Prop} (h0 : P []) (h1 : ∀ l a, P l → P (l ++ [a])) (l : List α) : P l := by
  have h : ∀ l : List α, P l.reverse := by
    intro l
    induction l with
    | nil => exact h0
    | cons a l ih =>
      rw [List.reverse_cons]
      exact h1 _ _ ih
  have := h l.reverse
  rwa [List.reverse_reverse] at this
def grows (p : Int) (n : Nat) (rs : List (List Int)) (k : Nat) : Bool := decide ((plainR p n (rs.take k)).length < (plainR p n (rs.take (k + 1))).length)
def needR (p : Int) (n : Nat) (rs : List (List Int)) : List Nat := (List.range rs.length).filter (grows p n rs)
def someR (p : Int) (n : Nat) (rs : List (List Int)) : List (List Int) := (needR p n rs).map fun k => rs.getD k []
theorem grows_old {p : Int} {n : Nat} {rs : List (List Int)} {r : List Int} {k : Nat} (h : k < rs.length) : grows p n (rs ++ [r]) k = grows p n rs k := by
  unfold grows
  rw [List.take_append_of_le_length (by omega), List.take_append_of_le_length (by omega)]
theorem grows_new {p : Int} {n : Nat} {rs : List (List Int)} {r : List Int} : grows p n (rs ++ [r]) rs.length = decide ((plainR p n rs).length < (plainR p n (rs ++ [r])).length) := by
  unfold grows
  rw [List.take_append_of_le_length (Nat.le_refl _), List.take_length, List.take_of_length_le (by simp)]
theorem needR_lt {p : Int} {n : Nat} {rs : List (List Int)} {k : Nat} (h : k ∈ needR p n rs) : k < rs.length := List.mem_range.mp (List.mem_filter.mp h).1
theorem needR_snoc (p : Int) (n : Nat) (rs : List (List Int)) (r : List Int) : needR p n (rs ++ [r]) = needR p n rs ++ (if (plainR p n rs).length < (plainR p n (rs ++ [r])).length then [rs.length] else []) := by
  unfold needR
  rw [show (rs ++ [r]).length = rs.length + 1 from by simp, List.range_succ, List.filter_append]
  congr 1
  · apply List.filter_congr
    intro k hk
    exact grows_old (List.mem_range.mp hk)
  · by_cases h : (plainR p n rs).length < (plainR p n (rs ++ [r])).length
    · rw [if_pos h, List.filter_cons_of_pos (by rw [grows_new]; exact decide_eq_true h)]
      rfl
    · rw [if_neg h, List.filter_cons_of_neg (by rw [grows_new, decide_eq_false h]; decide)]
      rfl
theorem someR_snoc (p : Int) (n : Nat) (rs : List (List Int)) (r : List Int) : someR p n (rs ++ [r]) = someR p n rs ++ (if (plainR p n rs).length < (plainR p n (rs ++ [r])).length then [r] else []) := by
  unfold someR
  rw [needR_snoc, List.map_append]
  congr 1
  · apply List.map_congr_left
    intro k hk
    have := needR_lt hk
    rw [List.getD_eq_getElem?_getD, List.getD_eq_getElem?_getD, List.getElem?_append_left this]
  · by_cases h : (plainR p n rs).length < (plainR p n (rs ++ [r])).length
    · rw [if_pos h, if_pos h]
      simp
    · rw [if_neg h, if_neg h]
      rfl
section
variable {q : Nat} [NeZero q]
theorem rowsOk_app {p : Int} {n : Nat} {rs ts : List (List Int)} (h1 : RowsOk p n rs) (h2 : RowsOk p n ts) : RowsOk p n (rs ++ ts) := fun x hx => by
  rcases List.mem_append.mp hx with h' | h'
  · exact h1 x h'
  · exact h2 x h'
theorem rowsOk_nil {p : Int} {n : Nat} : RowsOk p n [] := fun r hr => (nomatch hr)
theorem rowsOk_left {p : Int} {n : Nat} {rs ts : List (List Int)} (h : RowsOk p n (rs ++ ts)) : RowsOk p n rs := fun x hx => h x (List.mem_append_left _ hx)
theorem rowsOk_right {p : Int} {n : Nat} {rs ts : List (List Int)} (h : RowsOk p n (rs ++ ts)) : RowsOk p n ts := fun x hx => h x (List.mem_append_right _ hx)
theorem plainR_more (hF : Fld (q : Int)) {n : Nat} {rows : List (List Int)} {r : List Int} (h : RowsOk q n rows) (hr : RowsOk q n [r]) (hn : ¬ Mk q rows (toV r)) : (plainR q n (rows ++ [r])).length = (plainR q n rows).length + 1 := by
  have h2 : (2 : Int) ≤ q := hF.1
  have hr' := hr r List.mem_cons_self
  rw [plainR_len h, plainR_len (rowsOk_app h hr), List.map_append, List.map_cons, List.map_nil]
  exact plainV_more invF (one_ne (by omega)) (invF_ok hF) (rows_wid h) (fun i hi => toV_wid hr'.1 i hi) hn
theorem plainR_grows (hF : Fld (q : Int)) {n : Nat} {rows : List (List Int)} {r : List Int} (h : RowsOk q n rows) (hr : RowsOk q n [r]) : (plainR q n rows).length < (plainR q n (rows ++ [r])).length ↔ ¬ Mk q rows (toV r) := by
  constructor
  · intro hl hm
    have := (plainR_has hF h hr).mpr hm
    omega
  · intro hm
    have := plainR_more hF h hr hm
    omega
theorem mk_app_of {rows : List (List Int)} {r : List Int} (h : Mk q rows (toV r)) (x : Vec q) : Mk q (rows ++ [r]) x ↔ Mk q rows x := by
  unfold Mk
  rw [List.map_append]
  constructor
  · intro hx
    exact spn_append (spn_sub _) (fun _ h => h) (fun y hy => spn_sub_of (fun v hv => by
      have : v = toV r := by simpa using hv
      rw [this]
      exact h) hy) x hx
  · exact spn_left
theorem mk_app_congr {rows ts : List (List Int)} {r : List Int} (h : ∀ x, Mk q rows x ↔ Mk q ts x) (x : Vec q) : Mk q (rows ++ [r]) x ↔ Mk q (ts ++ [r]) x := by
  unfold Mk at *
  rw [List.map_append, List.map_append]
  constructor
  · intro hx
    exact spn_append (spn_sub _) (fun y hy => spn_left ((h y).mp hy)) (fun y hy => spn_right hy) x hx
  · intro hx
    exact spn_append (spn_sub _) (fun y hy => spn_left ((h y).mpr hy)) (fun y hy => spn_right hy) x hx
theorem plainR_congr (hF : Fld (q : Int)) {n : Nat} {one other : List (List Int)} (h1 : RowsOk q n one) (h2 : RowsOk q n other) (h : ∀ x, Mk q one x ↔ Mk q other x) : plainR q n one = plainR q n other :=
  (plainR_pf hF h1).plain hF h2 fun x => (plainR_mk hF h1 x).trans (h x)
theorem someR_mem {p : Int} {n : Nat} {rs : List (List Int)} {r : List Int} (h : r ∈ someR p n rs) : r ∈ rs := by
  obtain ⟨k, hk, rfl⟩ := List.mem_map.mp h
  have := needR_lt hk
  rw [List.getD_eq_getElem?_getD, List.getElem?_eq_getElem this]
  exact List.getElem_mem this
theorem someR_ok {p : Int} {n : Nat} {rs : List (List Int)} (h : RowsOk p n rs) : RowsOk p n (someR p n rs) := fun r hr => h r (someR_mem hr)
theorem someR_all (hF : Fld (q : Int)) {n : Nat} (rs : List (List Int)) : RowsOk q n rs → (∀ x, Mk q (someR q n rs) x ↔ Mk q rs x) ∧ (someR q n rs).length = (plainR q n rs).length ∧ needR q n (someR q n rs) = List.range (someR q n rs).length := by
  refine snoc_ind (P := fun rs => RowsOk q n rs → (∀ x, Mk q (someR q n rs) x ↔ Mk q rs x) ∧ (someR q n rs).length = (plainR q n rs).length ∧ needR q n (someR q n rs) = List.range (someR q n rs).length) (fun _ => ?_) (fun rs r ih hok => ?_) rs
  · refine ⟨fun _ => Iff.rfl, ?_, rfl⟩
    have h := (plainR_pf hF (n := n) (rows := []) rowsOk_nil)
    have : plainR q n [] = [] := (IsPF.uniq hF h ⟨rowsOk_nil, [], by
      constructor <;> intros <;> (try contradiction) <;> (try exact List.Pairwise.nil), rfl⟩ fun x => plainR_mk hF rowsOk_nil x)
    rw [this]
    rfl
  · have ok1 := rowsOk_left hok
    have ok2 := rowsOk_right hok
    obtain ⟨i1, i2, i3⟩ := ih ok1
    have oks := someR_ok (n := n) ok1
    rw [someR_snoc]
    by_cases hm : Mk q rs (toV r)
    · have hg : ¬ (plainR q n rs).length < (plainR q n (rs ++ [r])).length := fun h => (plainR_grows hF ok1 ok2).mp h hm
      rw [if_neg hg, List.append_nil]
      refine ⟨fun x => (i1 x).trans (mk_app_of hm x).symm, ?_, i3⟩
      rw [i2, (plainR_has hF ok1 ok2).mpr hm]
    · have hg := (plainR_grows hF ok1 ok2).mpr hm
      rw [if_pos hg]
      refine ⟨fun x => mk_app_congr i1 x, ?_, ?_⟩
      · rw [List.length_append, i2, plainR_more hF ok1 ok2 hm]
        rfl
      · rw [needR_snoc, i3, if_pos ((plainR_grows hF oks ok2).mpr fun h => hm ((i1 _).mp h)), List.length_append]
        exact List.range_succ.symm
theorem needR_len (p : Int) (n : Nat) (rs : List (List Int)) : (needR p n rs).length = (someR p n rs).length := (List.length_map _).symm
end
end OC
/-! The program's own way to the plain form: a row more, taken off, made plain, sorted. Core Lean alone. -/
namespace Lin
set_option linter.all false
section
variable {p : Nat} [NeZero p]
def leftF (bs : List (Nat × Vec p)) (x : Vec p) : Vec p := bs.foldl (fun x b => lessV x b.2 b.1) x
theorem red_congr : ∀ (l : List (Nat × Vec p)) (x y : Vec p), (∀ c ∈ l, y c.1 = x c.1) → red l y = red l x
  | [], _, _, _ => rfl
  | b :: l, x, y, h => by
    show addV (mulV (y b.1) b.2) (red l y) = addV (mulV (x b.1) b.2) (red l x)
    rw [h b List.mem_cons_self, red_congr l x y fun c hc => h c (List.mem_cons_of_mem _ hc)]
theorem leftF_eq : ∀ (l : List (Nat × Vec p)) (x : Vec p), l.Pairwise (fun a c => a.2 c.1 = 0) → leftF l x = leftV l x
  | [], x, _ => by
    funext i
    show x i = x i - 0
    grind
  | b :: l, x, h => by
    obtain ⟨h1, h2⟩ := List.pairwise_cons.mp h
    show leftF l (lessV x b.2 b.1) = _
    rw [leftF_eq l _ h2]
    have e : red l (lessV x b.2 b.1) = red l x := red_congr l x _ fun c hc => by
      show x c.1 - x b.1 * b.2 c.1 = x c.1
      rw [h1 c hc]
      grind
    funext i
    show (x i - x b.1 * b.2 i) - red l (lessV x b.2 b.1) i = x i - (x b.1 * b.2 i + red l x i)
    rw [e]
    grind
theorem PF.leftF {n : Nat} {bs : List (Nat × Vec p)} (h : PF n bs) (x : Vec p) : leftF bs x = leftV bs x := by
  refine leftF_eq bs x ?_
  refine h.inc.imp_of_mem fun {a c} ha hc hlt => h.off a ha c hc (by omega)
theorem red_wid : ∀ (l : List (Nat × Vec p)) (x : Vec p) (i : Nat), (∀ b ∈ l, b.2 i = 0) → red l x i = 0
  | [], _, _, _ => rfl
  | b :: l, x, i, h => by
    show x b.1 * b.2 i + red l x i = 0
    rw [red_wid l x i fun c hc => h c (List.mem_cons_of_mem _ hc), h b List.mem_cons_self]
    grind
/-- the pairs behind one row more -/
def moreV (inv : Fin p → Fin p) (bs : List (Nat × Vec p)) (y : Vec p) (j : Nat) : List (Nat × Vec p) := (j, ownV inv y j) :: bs.map fun b => (b.1, lessV b.2 (ownV inv y j) j)
variable (inv : Fin p → Fin p)
theorem moreV_pf {n : Nat} {bs : List (Nat × Vec p)} (h : PF n bs) (hinv : ∀ a : Fin p, a ≠ 0 → inv a * a = 1) {x : Vec p} (hx : ∀ i, n ≤ i → x i = 0) {j : Nat} (hj : Lead (leftV bs x) j) {cs : List (Nat × Vec p)} (hp : cs.Perm (moreV inv bs (leftV bs x) j)) (hi : cs.Pairwise (fun a b => a.1 < b.1)) :
    PF n cs ∧ ∀ z, Spn (cs.map (·.2)) z ↔ Spn (bs.map (·.2) ++ [x]) z := by
  generalize hy : leftV bs x = y at hj hp
  have yb : ∀ b ∈ bs, y b.1 = 0 := fun b hb => by rw [← hy]; exact left_at h x hb
  have yw : ∀ i, n ≤ i → y i = 0 := fun i hi => by
    rw [← hy]
    show x i - red bs x i = 0
    rw [hx i hi, red_wid bs x i fun b hb => h.wid b hb i hi]
    grind
  have jn : j < n := by
    rcases Nat.lt_or_ge j n with h' | h'
    · exact h'
    · exact absurd (yw j h') hj.1
  have jb : ∀ b ∈ bs, b.1 ≠ j := fun b hb e => hj.1 (by rw [← e]; exact yb b hb)
  generalize hf : ownV inv y j = f
  have fd : ∀ i, f i = inv (y j) * y i := fun i => by rw [← hf]; rfl
  have fj : f j = 1 := by rw [fd]; exact hinv _ hj.1
  have f0 : ∀ i, y i = 0 → f i = 0 := fun i e => by rw [fd, e]; grind
  have mem : ∀ c, c ∈ cs ↔ c = (j, f) ∨ ∃ b ∈ bs, c = (b.1, lessV b.2 f j) := fun c => by
    rw [hp.mem_iff]
    unfold moreV
    rw [hf, List.mem_cons, List.mem_map]
    constructor
    · rintro (e | ⟨b, hb, e⟩)
      · exact .inl e
      · exact .inr ⟨b, hb, e.symm⟩
    · rintro (e | ⟨b, hb, e⟩)
      · exact .inl e
      · exact .inr ⟨b, hb, e.symm⟩
  constructor
  · refine ⟨hi, fun c hc => ?_, fun c hc => ?_, fun c hc i hl => ?_, fun c hc d hd hne => ?_, fun c hc i hl => ?_⟩
    · rcases (mem c).mp hc with rfl | ⟨b, hb, rfl⟩
      · exact jn
      · exact h.lt b hb
    · rcases (mem c).mp hc with rfl | ⟨b, hb, rfl⟩
      · exact fj
      · show b.2 b.1 - b.2 j * f b.1 = 1
        rw [f0 _ (yb b hb), h.one b hb]
        grind
    · rcases (mem c).mp hc with rfl | ⟨b, hb, rfl⟩
      · exact f0 i (hj.2 i hl)
      · have hl : i < b.1 := hl
        show b.2 i - b.2 j * f i = 0
        rw [h.low b hb i hl]
        rcases Nat.lt_or_ge i j with h' | h'
        · rw [f0 i (hj.2 i h')]
          grind
        · rw [h.low b hb j (by omega)]
          grind
    · rcases (mem c).mp hc with rfl | ⟨b, hb, rfl⟩
      · rcases (mem d).mp hd with rfl | ⟨b', hb', rfl⟩
        · exact absurd rfl hne
        · exact f0 _ (yb b' hb')
      · rcases (mem d).mp hd with rfl | ⟨b', hb', rfl⟩
        · show b.2 j - b.2 j * f j = 0
          rw [fj]
          grind
        · show b.2 b'.1 - b.2 j * f b'.1 = 0
          rw [f0 _ (yb b' hb'), h.off b hb b' hb' hne]
          grind
    · rcases (mem c).mp hc with rfl | ⟨b, hb, rfl⟩
      · exact f0 i (yw i hl)
      · show b.2 i - b.2 j * f i = 0
        rw [f0 i (yw i hl), h.wid b hb i hl]
        grind
  · have Sc := spn_sub (cs.map (·.2))
    have Sx := spn_sub (bs.map (·.2) ++ [x])
    have inb : ∀ b ∈ bs, Spn (bs.map (·.2) ++ [x]) b.2 := fun b hb => spn_mem (List.mem_append_left _ (List.mem_map_of_mem hb))
    have inx : Spn (bs.map (·.2) ++ [x]) x := spn_mem (List.mem_append_right _ List.mem_cons_self)
    have iny : Spn (bs.map (·.2) ++ [x]) y := by
      have hr : Spn (bs.map (·.2) ++ [x]) (red bs x) := spn_left (spn_red bs x)
      have := Sx.less 1 inx hr
      have e : y = fun i => x i - 1 * red bs x i := by
        rw [← hy]
        funext i
        show x i - red bs x i = x i - 1 * red bs x i
        grind
      rw [e]
      exact this
    have inf : Spn (bs.map (·.2) ++ [x]) f := by
      have := Sx.mul (inv (y j)) iny
      rw [← hf]
      exact this
    have cf : Spn (cs.map (·.2)) f := spn_mem (List.mem_map.mpr ⟨(j, f), (mem _).mpr (.inl rfl), rfl⟩)
    have cb : ∀ b ∈ bs, Spn (cs.map (·.2)) b.2 := fun b hb => by
      have h1 : Spn (cs.map (·.2)) (lessV b.2 f j) := spn_mem (List.mem_map.mpr ⟨(b.1, lessV b.2 f j), (mem _).mpr (.inr ⟨b, hb, rfl⟩), rfl⟩)
      have h2 := Sc.add h1 (Sc.mul (b.2 j) cf)
      have e : b.2 = addV (lessV b.2 f j) (mulV (b.2 j) f) := by
        funext i
        show b.2 i = (b.2 i - b.2 j * f i) + b.2 j * f i
        grind
      rw [e]
      exact h2
    have cx : Spn (cs.map (·.2)) x := by
      have h1 : Spn (cs.map (·.2)) (red bs x) := spn_le Sc (fun v hv => by
        obtain ⟨b, hb, rfl⟩ := List.mem_map.mp hv
        exact cb b hb) (spn_red bs x)
      have h2 := Sc.add h1 (Sc.mul (y j) cf)
      have e : x = addV (red bs x) (mulV (y j) f) := by
        funext i
        show x i = red bs x i + y j * f i
        have e1 : y i = x i - red bs x i := by rw [← hy]; rfl
        have e2 := hinv _ hj.1
        rw [fd]
        grind
      rw [e]
      exact h2
    intro z
    constructor
    · intro hz
      refine spn_le Sx (fun v hv => ?_) hz
      obtain ⟨c, hc, rfl⟩ := List.mem_map.mp hv
      rcases (mem c).mp hc with rfl | ⟨b, hb, rfl⟩
      · exact inf
      · exact Sx.less (b.2 j) (inb b hb) inf
    · intro hz
      refine spn_le Sc (fun v hv => ?_) hz
      rcases List.mem_append.mp hv with hv | hv
      · obtain ⟨b, hb, rfl⟩ := List.mem_map.mp hv
        exact cb b hb
      · have : v = x := by simpa using hv
        rw [this]
        exact cx
end
end Lin
namespace OC
set_option linter.all false
open Lin
/-! ### first places -/
def fpR (r : List Int) : Nat := r.findIdx fun x => decide (x ≠ 0)
theorem fpR_le (r : List Int) : fpR r ≤ r.length := List.findIdx_le_length
theorem fpR_of {r : List Int} {j : Nat} (h : r.getD j 0 ≠ 0) (hl : ∀ i, i < j → r.getD i 0 = 0) : fpR r = j := by
  have hj : j < r.length := by
    rcases Nat.lt_or_ge j r.length with h' | h'
    · exact h'
    · exact absurd (gd_ge h') h
  unfold fpR
  rw [List.findIdx_eq hj]
  refine ⟨decide_eq_true (by rw [gd_lt hj] at h; exact h), fun i hi => ?_⟩
  have := hl i hi
  rw [gd_lt (by omega)] at this
  rw [this]
  rfl
theorem fpR_at {r : List Int} (h : fpR r < r.length) : r.getD (fpR r) 0 ≠ 0 := by
  have e := List.findIdx_getElem (xs := r) (p := fun x => decide (x ≠ 0)) (w := h)
  rw [gd_lt h]
  exact of_decide_eq_true e
theorem fpR_low {r : List Int} {i : Nat} (h : i < fpR r) : r.getD i 0 = 0 := by
  have hl : i < r.length := Nat.lt_of_lt_of_le h (fpR_le r)
  have e := List.not_of_lt_findIdx h
  rw [gd_lt hl]
  apply Classical.byContradiction
  intro hne
  have e2 : decide (r[i] ≠ 0) = true := decide_eq_true hne
  rw [e2] at e
  cases e
theorem fpR_all {r : List Int} (h : fpR r = r.length) : ∀ x ∈ r, x = 0 := by
  intro x hx
  obtain ⟨i, hi, rfl⟩ := List.getElem_of_mem hx
  have := fpR_low (r := r) (i := i) (by omega)
  rwa [gd_lt hi] at this
def leftR (p : Int) (room : List (List Int)) (r : List Int) : List Int := room.foldl (fun r b => lessR p r b (fpR b)) r
/-! ### the order of tuples -/
def codeR (B : Int) : List Int → Int
  | [] => 0
  | d :: r => d * B ^ r.length + codeR B r
theorem codeR_bd {B : Int} (hB : 0 < B) : ∀ r : List Int, (∀ x ∈ r, 0 ≤ x ∧ x < B) → 0 ≤ codeR B r ∧ codeR B r < B ^ r.length
  | [], _ => by
    refine ⟨Int.le_refl _, ?_⟩
    show (0 : Int) < B ^ 0
    rw [Int.pow_zero]
    decide
  | d :: r, h => by
    obtain ⟨c0, c1⟩ := codeR_bd hB r fun x hx => h x (List.mem_cons_of_mem _ hx)
    obtain ⟨d0, d1⟩ := h d List.mem_cons_self
    show 0 ≤ d * B ^ r.length + codeR B r ∧ d * B ^ r.length + codeR B r < B ^ (r.length + 1)
    rw [Int.pow_succ]
    generalize B ^ r.length = P at c1 ⊢
    generalize codeR B r = c at c0 c1 ⊢
    have p1 : (d + 1) * P ≤ B * P := Int.mul_le_mul_of_nonneg_right (by omega) (by omega)
    have p2 : 0 * P ≤ d * P := Int.mul_le_mul_of_nonneg_right d0 (by omega)
    rw [Int.add_mul, Int.one_mul, Int.mul_comm B P] at p1
    rw [Int.zero_mul] at p2
    generalize d * P = X at p1 p2 ⊢
    generalize P * B = Y at p1 ⊢
    constructor <;> omega
theorem fpR_zero (r : List Int) : fpR (0 :: r) = fpR r + 1 := by
  unfold fpR
  rw [List.findIdx_cons]
  simp
theorem fpR_nz {d : Int} (h : d ≠ 0) (r : List Int) : fpR (d :: r) = 0 := by
  unfold fpR
  rw [List.findIdx_cons]
  simp [h]
theorem code_lead {B : Int} (hB : 0 < B) : ∀ (a b : List Int), a.length = b.length → (∀ x ∈ a, 0 ≤ x ∧ x < B) → (∀ x ∈ b, 0 ≤ x ∧ x < B) → fpR b < fpR a → codeR B a < codeR B b
  | [], [], _, _, _, h => absurd h (Nat.lt_irrefl _)
  | [], _ :: _, e, _, _, _ => by cases e
  | _ :: _, [], e, _, _, _ => by cases e
  | x :: a, y :: b, e, ha, hb, h => by
    have e' : a.length = b.length := Nat.succ.inj e
    have x0 : x = 0 := by
      apply Classical.byContradiction
      intro hx
      rw [fpR_nz hx] at h
      exact Nat.not_lt_zero _ h
    subst x0
    have ha' : ∀ x ∈ a, 0 ≤ x ∧ x < B := fun x hx => ha x (List.mem_cons_of_mem _ hx)
    have hb' : ∀ x ∈ b, 0 ≤ x ∧ x < B := fun x hx => hb x (List.mem_cons_of_mem _ hx)
    show 0 * B ^ a.length + codeR B a < y * B ^ b.length + codeR B b
    by_cases hy : y = 0
    · subst hy
      rw [fpR_zero, fpR_zero] at h
      have := code_lead hB a b e' ha' hb' (by omega)
      omega
    · have c1 := (codeR_bd hB a ha').2
      have c2 := (codeR_bd hB b hb').1
      have y1 := (hb y List.mem_cons_self).1
      rw [e'] at c1
      generalize B ^ b.length = P at c1 ⊢
      rw [Int.zero_mul]
      have p1 : 1 * P ≤ y * P := by
        have c0 := (codeR_bd hB a ha').1
        exact Int.mul_le_mul_of_nonneg_right (by omega) (by omega)
      rw [Int.one_mul] at p1
      generalize y * P = X at p1 ⊢
      omega
/-! ### rows -/
section
variable {q : Nat} [NeZero q]
theorem toV_ne {r : List Int} (h : ∀ x ∈ r, 0 ≤ x ∧ x < (q : Int)) (i : Nat) : toV (q := q) r i ≠ 0 ↔ r.getD i 0 ≠ 0 := cF_ne (getD_lt q_pos h i)
theorem toV_eq0 {r : List Int} (h : ∀ x ∈ r, 0 ≤ x ∧ x < (q : Int)) (i : Nat) : toV (q := q) r i = 0 ↔ r.getD i 0 = 0 := by
  have := toV_ne h i
  constructor
  · intro e
    apply Classical.byContradiction
    intro hn
    exact this.mpr hn e
  · intro e
    apply Classical.byContradiction
    intro hn
    exact this.mp hn e
theorem fpR_lead {r : List Int} {j : Nat} (h : ∀ x ∈ r, 0 ≤ x ∧ x < (q : Int)) (hl : Lead (toV (q := q) r) j) : fpR r = j := fpR_of ((toV_ne h j).mp hl.1) fun i hi => (toV_eq0 h i).mp (hl.2 i hi)
theorem lead_fpR {r : List Int} (h : ∀ x ∈ r, 0 ≤ x ∧ x < (q : Int)) (hl : fpR r < r.length) : Lead (toV (q := q) r) (fpR r) := ⟨(toV_ne h _).mpr (fpR_at hl), fun i hi => (toV_eq0 h i).mpr (fpR_low hi)⟩
theorem leftR_sim {n : Nat} : ∀ (room : List (List Int)) (bs : List (Nat × Vec q)) (r : List Int), RowsOk q n room → RowsOk q n [r] → bs.map (·.2) = room.map (toV (q := q)) → (∀ b ∈ bs, Lead b.2 b.1) → RowsOk q n [leftR q room r] ∧ toV (q := q) (leftR q room r) = leftF bs (toV r)
  | [], [], r, _, h, _, _ => ⟨h, rfl⟩
  | [], _ :: _, _, _, _, e, _ => by cases e
  | _ :: _, [], _, _, _, e, _ => by cases e
  | c :: room, b :: bs, r, h1, h2, e, hl => by
    rw [List.map_cons, List.map_cons] at e
    obtain ⟨e1, e2⟩ := List.cons.inj e
    have hc := h1 c List.mem_cons_self
    have hr := h2 r List.mem_cons_self
    have fj : fpR c = b.1 := fpR_lead (q := q) hc.2 (by rw [← e1]; exact hl b List.mem_cons_self)
    have ok : RowsOk q n [lessR q r c (fpR c)] := fun x hx => by
      have : x = lessR q r c (fpR c) := by simpa using hx
      rw [this]
      exact less_row q_pos hr.1 hc.1 _
    obtain ⟨a1, a2⟩ := leftR_sim room bs (lessR q r c (fpR c)) (fun x hx => h1 x (List.mem_cons_of_mem _ hx)) ok e2 fun x hx => hl x (List.mem_cons_of_mem _ hx)
    refine ⟨a1, ?_⟩
    show toV (q := q) (leftR q room (lessR q r c (fpR c))) = leftF bs (lessV (toV r) b.2 b.1)
    rw [a2, toV_less (by rw [hr.1, hc.1]), fj, e1]
theorem q2 (hF : Fld (q : Int)) : 2 ≤ q := by
  have : (2 : Int) ≤ q := hF.1
  omega
theorem IsPF.left (hF : Fld (q : Int)) {n : Nat} {room : List (List Int)} (h : IsPF q n room) {r : List Int} (hr : RowsOk q n [r]) : ∃ bs, PF n bs ∧ bs.map (·.2) = room.map (toV (q := q)) ∧ RowsOk q n [leftR q room r] ∧ toV (q := q) (leftR q room r) = leftV bs (toV r) := by
  obtain ⟨ok, bs, pf, e⟩ := h
  obtain ⟨a1, a2⟩ := leftR_sim room bs r ok hr e fun b hb => pf.leads (one_ne (q2 hF)) hb
  exact ⟨bs, pf, e, a1, by rw [a2, pf.leftF]⟩
theorem noughts_toV {r : List Int} (h : ∀ x ∈ r, 0 ≤ x ∧ x < (q : Int)) : toV (q := q) r = zeroV ↔ ∀ x ∈ r, x = 0 := by
  constructor
  · intro e x hx
    obtain ⟨i, hi, rfl⟩ := List.getElem_of_mem hx
    have := (toV_eq0 h i).mp (congrFun e i)
    rwa [gd_lt hi] at this
  · intro e
    funext i
    refine (toV_eq0 h i).mpr ?_
    by_cases hi : i < r.length
    · rw [gd_lt hi]
      exact e _ (List.getElem_mem hi)
    · exact gd_ge (by omega)
/-- noughts are left just where the room has the row -/
theorem IsPF.left_zero (hF : Fld (q : Int)) {n : Nat} {room : List (List Int)} (h : IsPF q n room) {r : List Int} (hr : RowsOk q n [r]) : (∀ x ∈ leftR q room r, x = 0) ↔ Mk q room (toV r) := by
  obtain ⟨bs, pf, e, ok, et⟩ := h.left hF hr
  rw [← noughts_toV (ok _ List.mem_cons_self).2, et, Lin.left_zero pf, e]
  rfl
theorem perm_pw {α : Type} {R : α → α → Prop} {l m : List α} (hs : ∀ a b, R a b → R b a) (hp : l.Perm m) (h : m.Pairwise R) : l.Pairwise R := (hp.pairwise_iff fun {a b} => hs a b).mpr h
/-- the plain form behind one row more, as the program makes it -/
theorem IsPF.widen (hF : Fld (q : Int)) {n : Nat} {room : List (List Int)} (h : IsPF q n room) {r : List Int} (hr : RowsOk q n [r]) (hne : fpR (leftR q room r) < n) {rs : List (List Int)}
    (hp : rs.Perm (ownR q (leftR q room r) (fpR (leftR q room r)) :: room.map fun b => lessR q b (ownR q (leftR q room r) (fpR (leftR q room r))) (fpR (leftR q room r)))) (hs : rs.Pairwise fun a b => codeR q b ≤ codeR q a) : rs = plainR q n (room ++ [r]) := by
  obtain ⟨bs, pf, e, ok, et⟩ := h.left hF hr
  have okl := ok _ List.mem_cons_self
  have hall : RowsOk q n (room ++ [r]) := rowsOk_app h.1 hr
  have ld : Lead (leftV bs (toV r)) (fpR (leftR q room r)) := by
    rw [← et]
    exact lead_fpR okl.2 (by rw [okl.1]; exact hne)
  generalize hj : fpR (leftR q room r) = j at hne hp ld
  have eo : toV (q := q) (ownR q (leftR q room r) j) = ownV invF (leftV bs (toV r)) j := by
    rw [toV_own okl.2, et]
  have oko := own_row (q_pos (q := q)) okl.1 j
  generalize ownR q (leftR q room r) j = f at hp eo oko
  have okL : RowsOk q n (f :: room.map fun b => lessR q b f j) := fun x hx => by
    rcases List.mem_cons.mp hx with rfl | hx
    · exact oko
    · obtain ⟨b, hb, rfl⟩ := List.mem_map.mp hx
      exact less_row q_pos (h.1 b hb).1 oko.1 j
  have okS : RowsOk q n rs := fun x hx => okL x (hp.mem_iff.mp hx)
  have one1 := one_ne (q := q) (q2 hF)
  -- pairs of the list
  have pairs : (f :: room.map fun b => lessR q b f j).map (fun r => (fpR r, toV (q := q) r)) = moreV invF bs (leftV bs (toV r)) j := by
    have leadM : ∀ c ∈ moreV invF bs (leftV bs (toV r)) j, Lead c.2 c.1 := by
      intro c hc
      have yb : ∀ b ∈ bs, leftV bs (toV r) b.1 = 0 := fun b hb => left_at pf _ hb
      have fd : ∀ i, ownV invF (leftV bs (toV r)) j i = invF (leftV bs (toV r) j) * leftV bs (toV r) i := fun i => rfl
      rcases List.mem_cons.mp hc with rfl | hc
      · refine ⟨?_, fun i hi => ?_⟩
        · show ownV invF (leftV bs (toV r)) j j ≠ 0
          rw [fd, invF_ok hF _ ld.1]
          exact one1
        · show ownV invF (leftV bs (toV r)) j i = 0
          rw [fd, ld.2 i hi]
          grind
      · obtain ⟨b, hb, rfl⟩ := List.mem_map.mp hc
        refine ⟨?_, fun i hi => ?_⟩
        · show b.2 b.1 - b.2 j * ownV invF (leftV bs (toV r)) j b.1 ≠ 0
          rw [fd, yb b hb, pf.one b hb]
          have : (1 : Fin q) - b.2 j * (invF (leftV bs (toV r) j) * 0) = 1 := by grind
          rw [this]
          exact one1
        · have hi : i < b.1 := hi
          show b.2 i - b.2 j * ownV invF (leftV bs (toV r)) j i = 0
          rw [fd, pf.low b hb i hi]
          rcases Nat.lt_or_ge i j with h' | h'
          · rw [ld.2 i h']
            grind
          · rw [pf.low b hb j (by omega)]
            grind
    have e2 : (f :: room.map fun b => lessR q b f j).map (toV (q := q)) = (moreV invF bs (leftV bs (toV r)) j).map (·.2) := by
      unfold moreV
      rw [List.map_cons, List.map_cons, eo, List.map_map, List.map_map]
      congr 1
      have e3 : bs.map ((fun b : Nat × Vec q => b.2) ∘ fun b => (b.1, lessV b.2 (ownV invF (leftV bs (toV r)) j) j)) = (bs.map (·.2)).map fun v => lessV v (ownV invF (leftV bs (toV r)) j) j := by
        rw [List.map_map]
        rfl
      rw [e3, e, List.map_map]
      apply List.map_congr_left
      intro x hx
      show toV (lessR q x f j) = lessV (toV x) (ownV invF (leftV bs (toV r)) j) j
      rw [toV_less (by rw [(h.1 x hx).1, oko.1]), eo]
    have key : ∀ (L : List (List Int)) (M : List (Nat × Vec q)), RowsOk q n L → (∀ c ∈ M, Lead c.2 c.1) → L.map (toV (q := q)) = M.map (·.2) → L.map (fun r => (fpR r, toV (q := q) r)) = M := by
      intro L
      induction L with
      | nil =>
        intro M _ _ e
        cases M with
        | nil => rfl
        | cons m M => cases e
      | cons x L ih =>
        intro M ok lm e
        cases M with
        | nil => cases e
        | cons m M =>
          rw [List.map_cons, List.map_cons] at e
          obtain ⟨a1, a2⟩ := List.cons.inj e
          rw [List.map_cons, ih M (fun y hy => ok y (List.mem_cons_of_mem _ hy)) (fun c hc => lm c (List.mem_cons_of_mem _ hc)) a2]
          congr 1
          have := lm m List.mem_cons_self
          rw [← a1] at this
          rw [fpR_lead (ok x List.mem_cons_self).2 this, a1]
    exact key _ _ okL leadM e2
  have pm : (rs.map fun r => (fpR r, toV (q := q) r)).Perm (moreV invF bs (leftV bs (toV r)) j) := by
    rw [← pairs]
    exact hp.map _
  have dist : (moreV invF bs (leftV bs (toV r)) j).Pairwise fun a b => a.1 ≠ b.1 := by
    unfold moreV
    rw [List.pairwise_cons]
    constructor
    · intro c hc
      obtain ⟨b, hb, rfl⟩ := List.mem_map.mp hc
      intro z
      have z : j = b.1 := z
      apply ld.1
      rw [z]
      exact left_at pf _ hb
    · rw [List.pairwise_map]
      exact pf.inc.imp fun {a b} hab => by
        show a.1 ≠ b.1
        omega
  have dist2 := perm_pw (fun a b hab => Ne.symm hab) pm dist
  rw [List.pairwise_map] at dist2
  have inc : (rs.map fun r => (fpR r, toV (q := q) r)).Pairwise fun a b => a.1 < b.1 := by
    rw [List.pairwise_map]
    refine List.Pairwise.imp_of_mem (fun {a b} ha hb hab => ?_) (dist2.and hs)
    obtain ⟨h1, h2⟩ := hab
    have h1 : fpR a ≠ fpR b := h1
    show fpR a < fpR b
    apply Classical.byContradiction
    intro hn
    have := code_lead (q_pos (q := q)) a b (by rw [(okS a ha).1, (okS b hb).1]) (okS a ha).2 (okS b hb).2 (by omega)
    omega
  obtain ⟨g1, g2⟩ := moreV_pf invF pf (invF_ok hF) (x := toV r) (fun i hi => toV_wid (hr r List.mem_cons_self).1 i hi) ld pm inc
  have em : (rs.map fun r => (fpR r, toV (q := q) r)).map (·.2) = rs.map (toV (q := q)) := by
    rw [List.map_map]
    rfl
  refine IsPF.plain hF ⟨okS, _, g1, em⟩ hall fun x => ?_
  have := g2 x
  rw [em, e] at this
  unfold Mk
  rw [List.map_append]
  exact this
/-- a made row makes nothing new -/
theorem IsPF.widen0 (hF : Fld (q : Int)) {n : Nat} {room : List (List Int)} (h : IsPF q n room) {r : List Int} (hr : RowsOk q n [r]) (hne : ∀ x ∈ leftR q room r, x = 0) : room = plainR q n (room ++ [r]) := by
  have hm := (h.left_zero hF hr).mp hne
  exact IsPF.plain hF h (rowsOk_app h.1 hr) fun x => (mk_app_of hm x).symm
theorem isPF_iff (hF : Fld (q : Int)) {n : Nat} {room : List (List Int)} : IsPF q n room ↔ RowsOk q n room ∧ plainR q n room = room :=
  ⟨fun h => ⟨h.1, (IsPF.plain hF h h.1 fun _ => Iff.rfl).symm⟩, fun h => by
    have := plainR_pf hF h.1
    rwa [h.2] at this⟩
end
/-- a plain form: rows that are their own plain form -/
def PFR (p : Int) (n : Nat) (room : List (List Int)) : Prop := RowsOk p n room ∧ plainR p n room = room
theorem to_q {p : Int} (hF : Fld p) : ∃ q : Nat, p = (q : Int) ∧ ∃ _ : NeZero q, Fld (q : Int) := by
  have h2 := hF.1
  obtain ⟨q, rfl⟩ := Int.eq_ofNat_of_zero_le (show 0 ≤ p by omega)
  exact ⟨q, rfl, ⟨by omega⟩, hF⟩
theorem PFR.of_plain {p : Int} (hF : Fld p) {n : Nat} {rows : List (List Int)} (h : RowsOk p n rows) : PFR p n (plainR p n rows) := by
  obtain ⟨q, rfl, _, hF⟩ := to_q hF
  exact (isPF_iff hF).mp (plainR_pf hF h)
theorem PFR.nil {p : Int} (hF : Fld p) (n : Nat) : PFR p n [] := by
  have := PFR.of_plain hF (n := n) (rowsOk_nil (p := p))
  have e : plainR p n [] = [] := by
    have h : ∀ k, (List.range k).foldl (stepR p) (([] : List (List Int)), ([] : List (List Int))) = ([], []) := by
      intro k
      induction k with
      | zero => rfl
      | succ k ih => rw [List.range_succ, List.foldl_append, ih]; rfl
    unfold plainR
    rw [h]
  exact ⟨rowsOk_nil, e⟩
theorem PFR.left_ok {p : Int} (hF : Fld p) {n : Nat} {room : List (List Int)} (h : PFR p n room) {r : List Int} (hr : RowsOk p n [r]) : RowsOk p n [leftR p room r] := by
  obtain ⟨q, rfl, _, hF⟩ := to_q hF
  obtain ⟨_, _, _, ok, _⟩ := ((isPF_iff hF).mpr h).left hF hr
  exact ok
theorem PFR.widen {p : Int} (hF : Fld p) {n : Nat} {room : List (List Int)} (h : PFR p n room) {r : List Int} (hr : RowsOk p n [r]) (hne : fpR (leftR p room r) < n) {rs : List (List Int)}
    (hp : rs.Perm (ownR p (leftR p room r) (fpR (leftR p room r)) :: room.map fun b => lessR p b (ownR p (leftR p room r) (fpR (leftR p room r))) (fpR (leftR p room r)))) (hs : rs.Pairwise fun a b => codeR p b ≤ codeR p a) : rs = plainR p n (room ++ [r]) := by
  obtain ⟨q, rfl, _, hF⟩ := to_q hF
  exact ((isPF_iff hF).mpr h).widen hF hr hne hp hs
theorem PFR.widen0 {p : Int} (hF : Fld p) {n : Nat} {room : List (List Int)} (h : PFR p n room) {r : List Int} (hr : RowsOk p n [r]) (hne : ∀ x ∈ leftR p room r, x = 0) : room = plainR p n (room ++ [r]) := by
  obtain ⟨q, rfl, _, hF⟩ := to_q hF
  exact ((isPF_iff hF).mpr h).widen0 hF hr hne
/-- noughts are left just where one row more makes nothing new -/
theorem PFR.left_has {p : Int} (hF : Fld p) {n : Nat} {room : List (List Int)} (h : PFR p n room) {r : List Int} (hr : RowsOk p n [r]) : (∀ x ∈ leftR p room r, x = 0) ↔ (plainR p n (room ++ [r])).length = (plainR p n room).length := by
  obtain ⟨q, rfl, _, hF⟩ := to_q hF
  rw [((isPF_iff hF).mpr h).left_zero hF hr]
  exact (plainR_has hF h.1 hr).symm
/-- the plain form of a plain form and more rows -/
theorem plainR_app {p : Int} (hF : Fld p) {n : Nat} {rows ts : List (List Int)} (h : RowsOk p n rows) (ht : RowsOk p n ts) : plainR p n (plainR p n rows ++ ts) = plainR p n (rows ++ ts) := by
  obtain ⟨q, rfl, _, hF⟩ := to_q hF
  refine plainR_congr hF (rowsOk_app (plainR_rows h) ht) (rowsOk_app h ht) fun x => ?_
  unfold Mk
  rw [List.map_append, List.map_append]
  constructor
  · intro hx
    refine spn_le (spn_sub _) (fun v hv => ?_) hx
    rcases List.mem_append.mp hv with hv | hv
    · exact spn_left ((plainR_mk hF h v).mp (spn_mem hv))
    · exact spn_right (spn_mem hv)
  · intro hx
    refine spn_le (spn_sub _) (fun v hv => ?_) hx
    rcases List.mem_append.mp hv with hv | hv
    · exact spn_left ((plainR_mk hF h v).mpr (spn_mem hv))
    · exact spn_right (spn_mem hv)
theorem plainR_lenle {p : Int} (hF : Fld p) {n : Nat} {rows : List (List Int)} (h : RowsOk p n rows) : (plainR p n rows).length ≤ n := by
  obtain ⟨q, rfl, _, hF⟩ := to_q hF
  obtain ⟨_, bs, pf, e⟩ := plainR_pf hF h
  have e1 := congrArg List.length e
  rw [List.length_map, List.length_map] at e1
  rw [← e1]
  have h1 : (bs.map (·.1)).Pairwise (· < ·) := List.pairwise_map.mpr pf.inc
  have h2 := (sorted_len h1 (List.pairwise_lt_range (n := n)) fun x hx => by
    obtain ⟨b, hb, rfl⟩ := List.mem_map.mp hx
    exact List.mem_range.mpr (pf.lt b hb)).1
  rw [List.length_map, List.length_range] at h2
  exact h2
end OC
set_option Elab.async false
set_option linter.all false
set_option maxRecDepth 100000
/-! what laws share of rows as ints and as data -/
namespace OC
open PySem PySem.Spec PyProof.Rows L2
def plusR (p : Int) (x y : List Int) (m : Int) : List Int := List.zipWith (fun a b => (a + m * b) % p) x y
theorem plus_len {p : Int} {x y : List Int} {m : Int} (h : x.length = y.length) : (plusR p x y m).length = x.length := by
  unfold plusR
  rw [List.length_zipWith]
  omega
theorem plus_ok {p : Int} {x y : List Int} {m : Int} (hp : 0 < p) : RowOk p (plusR p x y m) := by
  intro z hz
  unfold plusR at hz
  rw [List.mem_iff_getElem?] at hz
  obtain ⟨i, hi⟩ := hz
  rw [List.getElem?_zipWith] at hi
  split at hi
  · cases Option.some.inj hi
    exact ⟨Int.emod_nonneg _ (by omega), Int.emod_lt_of_pos _ hp⟩
  · cases hi
def addR (p : Int) (x y : List Int) : List Int := List.zipWith (fun a b => (a + b) % p) x y
def timesR (p a : Int) (x : List Int) : List Int := x.map fun r => a * r % p
def worthR (p : Int) (x y : List Int) : Int := (List.zipWith (fun a b => a * b) x y).sum % p
def madeR (p : Int) (z : List Int) (l : List (List Int × Int)) : List Int := l.foldl (fun acc rf => plusR p acc rf.1 rf.2) z
theorem plus1 (p : Int) : ∀ x y : List Int, plusR p x y 1 = addR p x y
  | [], _ => rfl
  | _ :: _, [] => rfl
  | a :: x, b :: y => by
    have ih := plus1 p x y
    unfold plusR addR at ih ⊢
    rw [List.zipWith_cons_cons, List.zipWith_cons_cons, ih, Int.one_mul]
theorem add_times (p f : Int) : ∀ x y : List Int, addR p x (timesR p f y) = plusR p x y f
  | [], _ => rfl
  | _ :: _, [] => rfl
  | a :: x, b :: y => by
    have ih := add_times p f x y
    unfold plusR addR timesR at ih ⊢
    rw [List.map_cons, List.zipWith_cons_cons, List.zipWith_cons_cons, ih, Int.add_emod_emod]
theorem add_len {p : Int} {x y : List Int} (h : x.length = y.length) : (addR p x y).length = x.length := by
  unfold addR
  rw [List.length_zipWith]
  omega
theorem worth_bd {p : Int} {x y : List Int} (hp : 0 < p) : 0 ≤ worthR p x y ∧ worthR p x y < p := ⟨Int.emod_nonneg _ (by omega), Int.emod_lt_of_pos _ hp⟩
theorem made_len (p : Int) (n : Nat) : ∀ (l : List (List Int × Int)) (z : List Int), z.length = n → (∀ x ∈ l, x.1.length = n) → (madeR p z l).length = n
  | [], z, hz, _ => hz
  | x :: l, z, hz, h => by
    refine made_len p n l _ ?_ fun y hy => h y (List.mem_cons_of_mem _ hy)
    rw [plus_len (by rw [hz, h x List.mem_cons_self])]
    exact hz
theorem made_ok {p : Int} (hp : 0 < p) : ∀ (l : List (List Int × Int)) (z : List Int), RowOk p z → RowOk p (madeR p z l)
  | [], z, hz => hz
  | x :: l, z, hz => made_ok hp l _ (plus_ok hp)
theorem made_take {p : Int} {z : List Int} {l : List (List Int × Int)} {i : Nat} {x : List Int × Int} (h : l[i]? = some x) : madeR p z (l.take (i + 1)) = plusR p (madeR p z (l.take i)) x.1 x.2 := by
  unfold madeR
  rw [List.take_add_one, h, List.foldl_append]
  rfl
def intsOf : PyData → List Int
  | .list ds => ds.map fun d => match d with | .int i => i | _ => 0
  | .tuple ds => ds.map fun d => match d with | .int i => i | _ => 0
  | _ => []
theorem ints_row (r : List Int) : intsOf (rowD r) = r := by
  show (r.map PyData.int).map _ = r
  rw [List.map_map]
  exact List.map_id r
theorem rep_lst_ints {K : PySem.W.Frag} {H : Hp} {bad : Addr → Prop} : ∀ {xs : List V} {r : List Int}, RepAll K H bad xs (r.map PyData.int) → xs = r.map V.int
  | _, [], h => by cases h; rfl
  | _, n :: r, h => by
    cases h with
    | cons h1 h2 =>
      cases h1
      rw [rep_lst_ints h2]
      rfl
theorem rep_row {K : PySem.W.Frag} {H : Hp} {bad : Addr → Prop} {v : V} {r : List Int} (h : Rep K H bad v (rowD r)) : ∃ l, v = .ref l ∧ SqT K H l (r.map V.int) := by
  unfold rowD at h
  cases h with
  | tup hs ha => exact ⟨_, rfl, (rep_lst_ints ha) ▸ hs⟩
theorem rep_rows {K : PySem.W.Frag} {H : Hp} {bad : Addr → Prop} : ∀ {ws : List V} {rs : List (List Int)}, DpAll K H ws (rs.map rowD) → RepAll K H bad ws (rs.map rowD)
  | _, [], h => by cases h; exact .nil
  | _, r :: rs, h => by
    cases h with
    | cons h1 h2 =>
      obtain ⟨a, rfl, ha⟩ := dp_row h1
      exact .cons (row_rep ha) (rep_rows h2)
theorem rows_rep {K : PySem.W.Frag} {H : Hp} {bad : Addr → Prop} : ∀ {ws : List V} {rs : List (List Int)}, RepAll K H bad ws (rs.map rowD) → DpAll K H ws (rs.map rowD)
  | _, [], h => by cases h; exact .nil
  | _, r :: rs, h => by
    cases h with
    | cons h1 h2 =>
      obtain ⟨a, rfl, ha⟩ := rep_row h1
      exact .cons (row_dp ha) (rows_rep h2)
theorem foldl_succ {α : Type} (f : α → Nat → α) (a : α) (k : Nat) : (List.range (k + 1)).foldl f a = f ((List.range k).foldl f a) k := by
  rw [List.range_succ, List.foldl_append]
  rfl
theorem dpAll_take {K : PySem.W.Frag} {H : Hp} : ∀ {xs : List V} {ds : List PyData} (k : Nat), DpAll K H xs ds → DpAll K H (xs.take k) (ds.take k)
  | _, _, 0, _ => by rw [List.take_zero, List.take_zero]; exact .nil
  | _, _, _ + 1, .nil => .nil
  | _, _, k + 1, .cons h1 h2 => .cons h1 (dpAll_take k h2)
def numsV (ks : List Nat) : List V := ks.map fun (k : Nat) => V.int (k : Int)
theorem plainR_nil (p : Int) (n : Nat) : plainR p n [] = [] := by
  have h : ∀ k, (List.range k).foldl (stepR p) (([] : List (List Int)), ([] : List (List Int))) = ([], []) := by
    intro k
    induction k with
    | zero => rfl
    | succ k ih => rw [foldl_succ, ih]; rfl
  unfold plainR
  rw [h]
theorem need_take (p : Int) (n : Nat) (rs : List (List Int)) (k : Nat) (h : k < rs.length) : needR p n (rs.take (k + 1)) = needR p n (rs.take k) ++ (if (plainR p n (rs.take k)).length < (plainR p n (rs.take (k + 1))).length then [k] else []) := by
  have e : rs.take (k + 1) = rs.take k ++ [rs[k]] := by rw [List.take_succ, List.getElem?_eq_getElem h]; rfl
  rw [e, needR_snoc, List.length_take, Nat.min_eq_left (by omega)]
def hasR (p : Int) (n : Nat) (rs : List (List Int)) (r : List Int) : Bool := decide ((plainR p n (rs ++ [r])).length = (plainR p n rs).length)
def fldB (p : Nat) : Bool := decide (2 ≤ p) && (List.range p).all fun a => a == 0 || (List.range p).any fun b => a * b % p == 1
theorem fld_of {p : Nat} (h : fldB p = true) : Fld (p : Int) := by
  unfold fldB at h
  rw [Bool.and_eq_true] at h
  obtain ⟨h2, h⟩ := h
  have h2 := of_decide_eq_true h2
  refine ⟨by omega, fun a a1 ap => ?_⟩
  have ha := List.all_eq_true.mp h a.toNat (List.mem_range.mpr (by omega))
  rw [Bool.or_eq_true] at ha
  rcases ha with ha | ha
  · have := eq_of_beq ha
    omega
  · obtain ⟨b, hb, e⟩ := List.any_eq_true.mp ha
    have e := eq_of_beq e
    have hb := List.mem_range.mp hb
    refine ⟨(b : Int), ?_, by omega, ?_⟩
    · cases b with
      | zero => rw [Nat.mul_zero, Nat.zero_mod] at e; cases e
      | succ b => omega
    · have e2 : ((a.toNat * b % p : Nat) : Int) = 1 := by rw [e]; rfl
      rw [Int.natCast_emod, Int.natCast_mul, Int.toNat_of_nonneg (by omega)] at e2
      exact e2
theorem some_facts {p : Int} (hF : Fld p) {n : Nat} {rs : List (List Int)} (ok : RowsOk p n rs) : plainR p n (someR p n rs) = plainR p n rs ∧ (needR p n rs).length = (plainR p n rs).length ∧ needR p n (someR p n rs) = List.range (someR p n rs).length := by
  have h2 := hF.1
  obtain ⟨q, rfl⟩ := Int.eq_ofNat_of_zero_le (show 0 ≤ p by omega)
  haveI : NeZero q := ⟨by omega⟩
  obtain ⟨h1, h3, h4⟩ := someR_all hF rs ok
  exact ⟨plainR_congr hF (someR_ok ok) ok h1, by rw [needR_len]; exact h3, h4⟩
end OC
set_option Elab.async false
set_option linter.all false
set_option maxRecDepth 100000
/-! what the promises of the program's own defs rest on -/
namespace OC
open PySem PySem.Spec PyProof.Rows L2 Lin
theorem less_eq {p : Int} : ∀ (c : Int) (x y : List Int), addR p x (timesR p (p - c) y) = List.zipWith (fun r m => (r - c * m) % p) x y
  | _, [], _ => rfl
  | _, _ :: _, [] => rfl
  | c, a :: x, b :: y => by
    have ih := less_eq (p := p) c x y
    unfold addR timesR at ih ⊢
    rw [List.map_cons, List.zipWith_cons_cons, List.zipWith_cons_cons, ih, Int.add_emod_emod]
    congr 1
    rw [show a + (p - c) * b = (a - c * b) + p * b by grind, Int.add_mul_emod_self_left]
theorem less_zero {p : Int} : ∀ (x y : List Int), x.length = y.length → RowOk p x → List.zipWith (fun r m => (r - 0 * m) % p) x y = x
  | [], _, _, _ => rfl
  | _ :: _, [], e, _ => by cases e
  | a :: x, b :: y, e, h => by
    rw [List.zipWith_cons_cons, less_zero x y (Nat.succ.inj e) fun z hz => h z (List.mem_cons_of_mem _ hz)]
    have := h a List.mem_cons_self
    rw [Int.zero_mul, Int.sub_zero, Int.emod_eq_of_lt this.1 this.2]
theorem ctr_uniq {p a b : Int} (hF : Fld p) (h0 : 1 ≤ a) (h1 : a < p) (b0 : 1 ≤ b) (b1 : b < p) (e : a * b % p = 1) : b = ctr p a := by
  obtain ⟨c0, c1, c2⟩ := ctr_ok hF h0 h1
  generalize ctr p a = c at c0 c1 c2
  have h2 := hF.1
  have e1 : b * (a * c) % p = b := by
    rw [Int.mul_emod, c2, Int.mul_one, Int.emod_emod]
    exact Int.emod_eq_of_lt (by omega) b1
  have e2 : b * (a * c) % p = c := by
    rw [show b * (a * c) = (a * b) * c by grind, Int.mul_emod, e, Int.one_mul, Int.emod_emod]
    exact Int.emod_eq_of_lt c0 c1
  omega
/-- rows in a tuple -/
def RowsAt (K : PySem.W.Frag) (H : Hp) (a : Addr) (rs : List (List Int)) : Prop := ∃ ws, SqT K H a ws ∧ DpAll K H ws (rs.map rowD)
theorem RowsAt.same {K : PySem.W.Frag} {H H' : Hp} {a : Addr} {rs : List (List Int)} (s : Same H H') (h : RowsAt K H a rs) : RowsAt K H' a rs := by
  obtain ⟨ws, h1, h2⟩ := h
  exact ⟨ws, Same.tup s h1, dpAll_same s _ _ h2⟩
theorem rows_len {K : PySem.W.Frag} {H : Hp} {ws : List V} {rs : List (List Int)} (h : DpAll K H ws (rs.map rowD)) : ws.length = rs.length := by
  have := dpAll_len h
  rwa [List.length_map] at this
theorem PFR.fp_lt {p : Int} (hF : Fld p) {n : Nat} {room : List (List Int)} (h : PFR p n room) : ∀ b ∈ room, fpR b < n := by
  obtain ⟨q, rfl, _, hF⟩ := to_q hF
  obtain ⟨ok, bs, pf, e⟩ := (isPF_iff hF).mpr h
  intro b hb
  have : toV (q := q) b ∈ bs.map (·.2) := by rw [e]; exact List.mem_map_of_mem hb
  obtain ⟨c, hc, ec⟩ := List.mem_map.mp this
  have := pf.leads (one_ne (q2 hF)) hc
  rw [ec] at this
  rw [fpR_lead (ok b hb).2 this]
  exact pf.lt c hc
/-- a room of all rows gets no wider -/
theorem plain_full {p : Int} (hF : Fld p) {n : Nat} {rows ts : List (List Int)} (h : RowsOk p n rows) (ht : RowsOk p n ts) (hl : (plainR p n rows).length = n) : plainR p n (rows ++ ts) = plainR p n rows := by
  have hle := plainR_lenle hF (rowsOk_app h ht)
  obtain ⟨q, rfl, _, hF⟩ := to_q hF
  obtain ⟨_, bs, pb, eb⟩ := plainR_pf hF h
  obtain ⟨_, cs, pc, ec⟩ := plainR_pf hF (rowsOk_app h ht)
  have lb := congrArg List.length eb
  have lc := congrArg List.length ec
  rw [List.length_map, List.length_map] at lb lc
  have sub : ∀ x, Spn (bs.map (·.2)) x → Spn (cs.map (·.2)) x := fun x hx => by
    rw [eb] at hx
    rw [ec]
    refine (plainR_mk hF (rowsOk_app h ht) x).mpr ?_
    unfold Mk
    rw [List.map_append]
    exact spn_left ((plainR_mk hF h x).mp hx)
  refine ((plainR_pf hF (rowsOk_app h ht)).uniq hF (plainR_pf hF h) fun x => ?_)
  unfold Mk
  rw [← eb, ← ec]
  exact ⟨fun hx => pb.same_of_len pc (one_ne (q2 hF)) sub (by omega) hx, sub x⟩
theorem dpAll_perm {K : PySem.W.Frag} {H : Hp} {ys xs : List V} (hp : ys.Perm xs) : ∀ {rs : List (List Int)}, DpAll K H xs (rs.map rowD) → ∃ rs' : List (List Int), rs'.Perm rs ∧ DpAll K H ys (rs'.map rowD) := by
  induction hp with
  | nil => exact fun {rs} h => ⟨rs, List.Perm.refl _, h⟩
  | cons x _ ih =>
    intro rs h
    cases rs with
    | nil => cases h
    | cons r rs =>
      cases h with
      | cons h1 h2 =>
        obtain ⟨rs', p, d⟩ := ih h2
        exact ⟨r :: rs', p.cons r, .cons h1 d⟩
  | swap x y l =>
    intro rs h
    match rs, h with
    | [], h => cases h
    | [r], h =>
      cases h with
      | cons h1 h2 => cases h2
    | r1 :: r2 :: rs, h =>
      cases h with
      | cons h1 h2 =>
        cases h2 with
        | cons h2 h3 => exact ⟨r2 :: r1 :: rs, List.Perm.swap _ _ _, .cons h2 (.cons h1 h3)⟩
  | trans _ _ ih1 ih2 =>
    intro rs h
    obtain ⟨r1, p1, d1⟩ := ih2 h
    obtain ⟨r2, p2, d2⟩ := ih1 d1
    exact ⟨r2, p2.trans p1, d2⟩
theorem code_eq (B : Int) : ∀ r : List Int, TS.code B r = codeR B r
  | [] => rfl
  | d :: r => by
    show d * B ^ r.length + TS.code B r = d * B ^ r.length + codeR B r
    rw [code_eq B r]
theorem dpAll_pw {K : PySem.W.Frag} {H : Hp} {B : Int} : ∀ {ys : List V} {rs : List (List Int)}, DpAll K H ys (rs.map rowD) → ys.Pairwise (fun x y => ∀ n m, TupI K H x n → TupI K H y m → TS.code B m ≤ TS.code B n) → rs.Pairwise fun a b => codeR B b ≤ codeR B a
  | _, [], _, _ => List.Pairwise.nil
  | _, r :: rs, h, hp => by
    cases h with
    | @cons y ys _ _ h1 h2 =>
      obtain ⟨p1, p2⟩ := List.pairwise_cons.mp hp
      refine List.pairwise_cons.mpr ⟨fun b hb => ?_, dpAll_pw h2 p2⟩
      obtain ⟨i, hi, rfl⟩ := List.getElem_of_mem hb
      have hi' : i < ys.length := by rw [rows_len h2]; exact hi
      obtain ⟨c, r2, ec, gr, _, hc⟩ := dpAll_row h2 (List.getElem?_eq_getElem hi')
      rw [List.getElem?_eq_getElem hi] at gr
      have er : rs[i] = r2 := Option.some.inj gr
      obtain ⟨a, ea, ha⟩ := dp_row h1
      have := p1 ys[i] (List.getElem_mem hi') r rs[i] ⟨a, ea, ha⟩ ⟨c, ec, by rw [er]; exact hc⟩
      rwa [code_eq, code_eq] at this
theorem hasR_iff {p : Int} (hF : Fld p) {n : Nat} {room : List (List Int)} (h : PFR p n room) {r : List Int} (hr : RowsOk p n [r]) : (leftR p room r).all (fun x => decide (x = 0)) = hasR p n room r := by
  have e := PFR.left_has hF h hr
  unfold hasR
  by_cases c : (plainR p n (room ++ [r])).length = (plainR p n room).length
  · rw [decide_eq_true c, List.all_eq_true]
    exact fun x hx => decide_eq_true (e.mpr c x hx)
  · rw [decide_eq_false c, Bool.eq_false_iff]
    intro z
    exact c (e.mp fun x hx => of_decide_eq_true (List.all_eq_true.mp z x hx))
theorem rowOk_getD {p : Int} {r : List Int} {n : Nat} (h : r.length = n ∧ ∀ x ∈ r, 0 ≤ x ∧ x < p) {j : Nat} (hj : j < n) : 0 ≤ r.getD j 0 ∧ r.getD j 0 < p := by
  rw [gd_lt (by omega)]
  exact h.2 _ (List.getElem_mem _)
theorem at_row {r : List Int} {j : Nat} (h : j < r.length) : atI (r.map V.int) (j : Int) = some (.int (r.getD j 0)) := at_of (j := j) rfl (by rw [List.getElem?_map, List.getElem?_eq_getElem h, gd_lt h]; rfl)
theorem rowsOk_one {p : Int} {n : Nat} {r : List Int} (h : r.length = n ∧ ∀ x ∈ r, 0 ≤ x ∧ x < p) : RowsOk p n [r] := fun x hx => by
  have : x = r := by simpa using hx
  rw [this]
  exact h
theorem leftR_take {p : Int} {room : List (List Int)} {r : List Int} {i : Nat} {b : List Int} (h : room[i]? = some b) : leftR p (room.take (i + 1)) r = lessR p (leftR p (room.take i) r) b (fpR b) := by
  unfold leftR
  rw [List.take_add_one, h, List.foldl_append]
  rfl
theorem leftR_ok {p : Int} (hp : 0 < p) {n : Nat} : ∀ (room : List (List Int)) (r : List Int), RowsOk p n room → RowsOk p n [r] → RowsOk p n [leftR p room r]
  | [], _, _, h => h
  | b :: room, r, h1, h2 => leftR_ok hp room _ (fun x hx => h1 x (List.mem_cons_of_mem _ hx)) (rowsOk_one (less_row hp (h2 r List.mem_cons_self).1 (h1 b List.mem_cons_self).1 _))
end OC
set_option Elab.async false
set_option linter.all false
set_option maxRecDepth 100000
/-! rooms as data; comprehensions of plain values -/
namespace OC
open PySem PySem.Spec PyProof.Rows L2 Lin
abbrev Bad (d c : Addr) : Addr → Prop := fun a => a = d ∨ a = c
theorem Deck.fresh {H : Hp} {d c p : Addr} {t : Int} (D : Deck H d c t) (n : H p = none) : ¬ Bad d c p := by
  obtain ⟨hd, ⟨cells, h1, h2⟩, _, t0⟩ := D
  rintro (z | z)
  · subst z; rw [hd] at n; cases n
  · subst z; rw [h1] at n; cases n
def L0 : PyData → Prop := fun _ => False
theorem Stays.kept2 {bad : Addr → Prop} {d c : Addr} {t : Int} {H H' : Hp} (D : Deck H d c t) (k : Kept d c H H') (bd : bad d) (bc : bad c) : Stays bad H H' := by
  have s := Stays.kept D k
  refine ⟨s.t, s.d, fun a xs h n => k a _ h (fun z => n (by rw [z]; exact bd)) (fun z => n (by rw [z]; exact bc))⟩
theorem Deck.mut {H : Hp} {d c B : Addr} {t : Int} {o : HO} (D : Deck H d c t) (b : ¬ Bad d c B) : Deck (upd H B o) d c t := by
  obtain ⟨hd, ⟨cells, h1, h2⟩, n, t0⟩ := D
  exact ⟨by rw [upd_ne (fun z => b (.inl z.symm))]; exact hd, ⟨cells, by rw [upd_ne (fun z => b (.inr z.symm))]; exact h1, h2⟩, n, t0⟩
theorem Kept.mut {H H' : Hp} {d c B : Addr} {o : HO} (k : Kept d c H H') (n : H B = none) : Kept d c H (upd H' B o) := fun b x h n1 n2 => by
  rw [upd_ne (ne_of_none h n)]
  exact k b x h n1 n2
theorem Kept.rows {K : PySem.W.Frag} {H H' : Hp} {d c : Addr} {t : Int} {a : Addr} {rs : List (List Int)} (D : Deck H d c t) (k : Kept d c H H') (h : RowsAt K H a rs) : RowsAt K H' a rs := by
  obtain ⟨ws, h1, h2⟩ := h
  exact ⟨ws, Kept.tup D k h1, dpAll_tk (Tk.kept D k) _ _ (noL_rows rs) h2⟩
def lenOk2 : PyData → Prop
  | .tuple ds => ds.length ≤ 100 ∧ ∀ x ∈ ds, lenOk x
  | _ => True
/-- [t for x in xs], t no object -/
theorem lc_valR {K : PySem.W.Frag} {J : It} {G : Hp → Prop} {vs : List V} {ds : List PyData} {σ : L2.St} {H : Hp} {Qd : Addr → Hp → Prop} {i : Nat} {sl : List Nat} {te : TE} (f : PyData → V)
    (w : Walk J vs.length G (YAt vs)) (hG : ∀ H', Same H H' → G H') (hD : RepAll K H NB vs ds) (hz : vs.length ≤ 1000) (hw : ∀ x : Option V, wipe ((wipe σ sl).set i x) sl = wipe σ sl)
    (hte : ∀ (v : V) (d : PyData) (H' : Hp) (Q' : VK), d ∈ ds → Rep K H' NB v d → Same H H' → (∀ H'', Same H' H'' → Q' (f d) H'') → te ((wipe σ sl).set i (some v)) H' Q')
    (hd : ∀ D H', Same H H' → H D = none → H' D = some (.lst (ds.map f)) → Qd D H') : LcGoal J (gName i) tYes te sl σ H Qd := by
  intro D nD
  have lv := repAll_len hD
  refine lc_it w (fun k H' => Same H H' ∧ H' D = some (.lst ((ds.take k).map f))) ⟨same_mut (Same.refl H) nD, upd_same⟩ (fun k H' _ hP => hG H' hP.1) (fun k x H1 H2 hk hP hY => ?_) (fun H' hP => ?_)
  · obtain ⟨rfl, e1⟩ := hY
    obtain ⟨sm, eD⟩ := hP
    obtain ⟨d, g, md, rx⟩ := repAll_get hD e1
    refine ⟨hw _, hte x d _ _ md (rep_stays (Stays.of sm) _ _ rx) sm fun H'' s2 => ?_⟩
    refine ⟨_, s2 _ _ eD, ?_, same_mut (sm.trans s2) nD, ?_⟩
    · rw [List.length_map, List.length_take]
      exact small1000 (by omega)
    · rw [upd_same, List.take_add_one, g, List.map_append]
      rfl
  · obtain ⟨sm, eD⟩ := hP
    rw [List.take_of_length_le (by omega)] at eD
    exact hd D H' sm nD eD
/-! ### rooms as data -/
theorem rests_ints {p : Int} : ∀ {es : List PyData}, es.all (restD p) = true → es = (es.map fun d => match d with | .int i => i | _ => 0).map PyData.int ∧ ∀ x ∈ es.map (fun d => match d with | .int i => i | _ => 0), 0 ≤ x ∧ x < p
  | [], _ => ⟨rfl, fun x hx => nomatch hx⟩
  | e :: es, h => by
    rw [List.all_cons, Bool.and_eq_true] at h
    obtain ⟨h1, h2⟩ := rests_ints h.2
    cases e with
    | int i =>
      have hi : (decide (0 ≤ i) && decide (i < p)) = true := h.1
      rw [Bool.and_eq_true] at hi
      refine ⟨?_, fun x hx => ?_⟩
      · rw [List.map_cons, List.map_cons, ← h1]
      · rw [List.map_cons] at hx
        rcases List.mem_cons.mp hx with rfl | hx
        · exact ⟨of_decide_eq_true hi.1, of_decide_eq_true hi.2⟩
        · exact h2 x hx
    | _ => exact (Bool.false_ne_true h.1).elim
theorem row_of {p : Int} {n : Nat} {d : PyData} (h : isRowD p n d = true) : d = rowD (intsOf d) ∧ (intsOf d).length = n ∧ ∀ x ∈ intsOf d, 0 ≤ x ∧ x < p := by
  cases d with
  | tuple es =>
    have h : (decide ((es.length : Int) = n) && es.all (restD p)) = true := h
    rw [Bool.and_eq_true] at h
    obtain ⟨h1, h2⟩ := rests_ints h.2
    have hl := of_decide_eq_true h.1
    refine ⟨?_, ?_, h2⟩
    · show PyData.tuple es = PyData.tuple _
      congr 1
    · show (es.map _).length = n
      rw [List.length_map]
      omega
  | _ => exact (Bool.false_ne_true h).elim
theorem isRow_row {p : Int} {n : Nat} {r : List Int} (h : r.length = n ∧ ∀ x ∈ r, 0 ≤ x ∧ x < p) : isRowD p n (rowD r) = true := by
  show (decide (((r.map PyData.int).length : Int) = n) && (r.map PyData.int).all (restD p)) = true
  rw [List.length_map, h.1, decide_eq_true rfl, Bool.true_and, List.all_map, List.all_eq_true]
  intro x hx
  show (decide (0 ≤ x) && decide (x < p)) = true
  have := h.2 x hx
  rw [decide_eq_true this.1, decide_eq_true this.2]
  rfl
theorem eqvAll_ints : ∀ a b : List Int, PyData.eqvAll (a.map PyData.int) (b.map PyData.int) = decide (a = b)
  | [], [] => by simp [PyData.eqvAll]
  | [], _ :: _ => by simp [PyData.eqvAll]
  | _ :: _, [] => by simp [PyData.eqvAll]
  | x :: a, y :: b => by
    rw [List.map_cons, List.map_cons, PyData.eqvAll, eqvAll_ints a b]
    by_cases h : x = y
    · subst h
      simp [PyData.eqv]
    · simp [PyData.eqv, h]
theorem eqv_row_dec (a b : List Int) : PyData.eqv (rowD a) (rowD b) = decide (a = b) := by
  unfold rowD
  rw [PyData.eqv, eqvAll_ints]
theorem all_id {α : Type} (q : α → Bool) (l : List α) : ((l.map q).all id) = l.all q := by
  rw [List.all_map]
  rfl
end OC
set_option Elab.async false
set_option linter.all false
set_option maxRecDepth 100000
/-! lists of things, filled while the deck is drawn from -/
namespace OC
open PySem PySem.Spec PyProof.Rows L2
theorem cut_upto {xs : List V} {i : Int} (h0 : 0 ≤ i) : cutV xs none (some i) = xs.take i.toNat := by
  unfold cutV
  have e : HT.sIx xs.length xs.length (some i) = min i.toNat xs.length := by
    have := HT.sIx_nat xs.length xs.length i.toNat
    rw [show ((i.toNat : Nat) : Int) = i by omega] at this
    exact this
  rw [e, HT.sIx_none, List.drop_zero, Nat.sub_zero, ← List.take_eq_take_min]
structure Th (K : PySem.W.Frag) (H : Hp) (d c M : Addr) (vs : List V) (es : List PyData) : Prop where
  m : H M = some (.lst vs)
  nb : ¬ Bad d c M
  r : RepAll K H (fun a => Bad d c a ∨ a = M) vs es
section
variable {K : PySem.W.Frag} {H H' : Hp} {d c M : Addr} {t : Int} {vs : List V} {es : List PyData}
theorem Th.same (h : Th K H d c M vs es) (s : Same H H') : Th K H' d c M vs es := ⟨s _ _ h.m, h.nb, repAll_stays (Stays.of s) _ _ h.r⟩
theorem Th.kept (h : Th K H d c M vs es) (D : Deck H d c t) (k : Kept d c H H') : Th K H' d c M vs es :=
  ⟨k _ _ h.m (fun z => h.nb (.inl z)) (fun z => h.nb (.inr z)), h.nb, repAll_stays (Stays.kept2 D k (.inl (.inl rfl)) (.inl (.inr rfl))) _ _ h.r⟩
theorem Th.push (h : Th K H d c M vs es) {v : V} {e : PyData} (r : Rep K H (fun a => Bad d c a ∨ a = M) v e) : Th K (upd H M (.lst (vs ++ [v]))) d c M (vs ++ [v]) (es ++ [e]) := by
  have st : Stays (fun a => Bad d c a ∨ a = M) H (upd H M (.lst (vs ++ [v]))) := upd_stays (Stays.of (Same.refl H)) h.m (.inr rfl)
  exact ⟨upd_same, h.nb, repAll_append (repAll_stays st _ _ h.r) (.cons (rep_stays st _ _ r) .nil)⟩
theorem Th.new (D : Deck H d c t) (n : H M = none) (r : RepAll K H (Bad d c) vs es) : Th K (upd H M (.lst vs)) d c M vs es :=
  ⟨upd_same, D.fresh n, repAll_stays (Stays.of (same_upd n)) _ _ (repAll_fresh n _ _ r)⟩
theorem Th.len (h : Th K H d c M vs es) : vs.length = es.length := repAll_len h.r
end
end OC
set_option Elab.async false
set_option linter.all false
set_option maxRecDepth 100000
/-! across: the program's own rows, and what they are -/
namespace OC
open PySem PySem.Spec PyProof.Rows L2 Lin
def crossF (p : Int) (room : List (List Int)) (j : Nat) (r0 : List Int) : List Int := room.foldl (fun r b => r.set (fpR b) ((-(b.getD j 0)) % p)) r0
def crossR (p : Int) (n : Nat) (room : List (List Int)) (j : Nat) : List Int := crossF p room j ((List.replicate n 0).set j 1)
def freesR (n : Nat) (room : List (List Int)) : List Nat := (List.range n).filter fun j => !decide (j ∈ room.map fpR)
def acrossR (p : Int) (n : Nat) (room : List (List Int)) : List (List Int) := plainR p n ((freesR n room).map (crossR p n room))
theorem crossF_take {p : Int} {room : List (List Int)} {j i : Nat} {b r0 : List Int} (h : room[i]? = some b) : crossF p (room.take (i + 1)) j r0 = (crossF p (room.take i) j r0).set (fpR b) ((-(b.getD j 0)) % p) := by
  unfold crossF
  rw [List.take_add_one, h, List.foldl_append]
  rfl
theorem crossF_len (p : Int) (j : Nat) : ∀ (room : List (List Int)) (r0 : List Int), (crossF p room j r0).length = r0.length
  | [], _ => rfl
  | b :: room, r0 => by
    show (crossF p room j (r0.set (fpR b) _)).length = _
    rw [crossF_len p j room, List.length_set]
theorem crossF_ok {p : Int} (hp : 0 < p) (j : Nat) : ∀ (room : List (List Int)) (r0 : List Int), (∀ x ∈ r0, 0 ≤ x ∧ x < p) → ∀ x ∈ crossF p room j r0, 0 ≤ x ∧ x < p
  | [], _, h => h
  | b :: room, r0, h => crossF_ok hp j room _ fun x hx => by
    rcases List.mem_or_eq_of_mem_set hx with hx | rfl
    · exact h x hx
    · exact ⟨Int.emod_nonneg _ (by omega), Int.emod_lt_of_pos _ hp⟩
theorem crossR_ok {p : Int} (hp : 2 ≤ p) (n : Nat) (room : List (List Int)) (j : Nat) : (crossR p n room j).length = n ∧ ∀ x ∈ crossR p n room j, 0 ≤ x ∧ x < p := by
  refine ⟨?_, crossF_ok (by omega) j room _ fun x hx => ?_⟩
  · unfold crossR
    rw [crossF_len, List.length_set, List.length_replicate]
  · rcases List.mem_or_eq_of_mem_set hx with hx | rfl
    · rw [List.eq_of_mem_replicate hx]
      omega
    · omega
section
variable {q : Nat} [NeZero q]
theorem getD_set {r : List Int} {k : Nat} {v : Int} (hk : k < r.length) (i : Nat) : (r.set k v).getD i 0 = if i = k then v else r.getD i 0 := by
  by_cases h : i = k
  · subst h
    rw [if_pos rfl, gd_lt (by rw [List.length_set]; exact hk), List.getElem_set_self]
  · rw [if_neg h]
    by_cases hi : i < r.length
    · rw [gd_lt (by rw [List.length_set]; exact hi), List.getElem_set_ne (fun z => h z.symm), gd_lt hi]
    · rw [gd_ge (by rw [List.length_set]; omega), gd_ge (by omega)]
theorem cF_neg (x : Int) : cF (q := q) (-x) = -cF x := by
  have h := cF_sub (q := q) 0 x
  rw [Int.zero_sub, cF_zero] at h
  rw [h]
  grind
theorem crossF_sim {n : Nat} (j : Nat) : ∀ (room : List (List Int)) (bs : List (Nat × Vec q)) (r0 : List Int), RowsOk q n room → r0.length = n → bs.map (·.2) = room.map (toV (q := q)) → (∀ b ∈ bs, Lead b.2 b.1 ∧ b.1 < n) → bs.Pairwise (fun a b => a.1 < b.1) → (∀ b ∈ bs, r0.getD b.1 0 = 0) →
    toV (q := q) (crossF q room j r0) = fun i => toV r0 i + (crossV bs j i - unitV j i)
  | [], [], r0, _, _, _, _, _, _ => by
    funext i
    show toV r0 i = toV r0 i + (unitV j i - unitV j i)
    grind
  | [], _ :: _, _, _, _, e, _, _, _ => by cases e
  | _ :: _, [], _, _, _, e, _, _, _ => by cases e
  | c :: room, b :: bs, r0, h1, h2, e, hl, hi, hz => by
    rw [List.map_cons, List.map_cons] at e
    obtain ⟨e1, e2⟩ := List.cons.inj e
    obtain ⟨i1, i2⟩ := List.pairwise_cons.mp hi
    have hc := h1 c List.mem_cons_self
    have hb := hl b List.mem_cons_self
    have fj : fpR c = b.1 := fpR_lead (q := q) hc.2 (by rw [← e1]; exact hb.1)
    have hlt : fpR c < r0.length := by rw [fj, h2]; exact hb.2
    have ih := crossF_sim j room bs (r0.set (fpR c) ((-(c.getD j 0)) % q)) (fun x hx => h1 x (List.mem_cons_of_mem _ hx)) (by rw [List.length_set]; exact h2) e2 (fun x hx => hl x (List.mem_cons_of_mem _ hx)) i2 fun x hx => by
      rw [getD_set hlt, if_neg (by rw [fj]; have := i1 x hx; omega)]
      exact hz x (List.mem_cons_of_mem _ hx)
    show toV (q := q) (crossF q room j (r0.set (fpR c) ((-(c.getD j 0)) % q))) = _
    rw [ih]
    funext i
    show cF ((r0.set (fpR c) ((-(c.getD j 0)) % q)).getD i 0) + (crossV bs j i - unitV j i) = toV r0 i + ((-(b.2 j)) * unitV b.1 i + crossV bs j i - unitV j i)
    have ej : b.2 j = cF (c.getD j 0) := congrFun e1 j
    have hz0 := hz b List.mem_cons_self
    rw [getD_set hlt, fj, ej]
    unfold unitV
    by_cases hib : i = b.1
    · subst hib
      rw [if_pos rfl, if_pos rfl, cF_mod, cF_neg]
      show -cF (c.getD j 0) + _ = cF (r0.getD b.1 0) + _
      rw [hz0, cF_zero]
      grind
    · rw [if_neg hib, if_neg hib]
      show cF (r0.getD i 0) + _ = cF (r0.getD i 0) + _
      grind
theorem firsts_eq {n : Nat} : ∀ (room : List (List Int)) (bs : List (Nat × Vec q)), RowsOk q n room → bs.map (·.2) = room.map (toV (q := q)) → (∀ b ∈ bs, Lead b.2 b.1) → room.map fpR = bs.map (·.1)
  | [], [], _, _, _ => rfl
  | [], _ :: _, _, e, _ => by cases e
  | _ :: _, [], _, e, _ => by cases e
  | c :: room, b :: bs, h1, e, hl => by
    rw [List.map_cons, List.map_cons] at e
    obtain ⟨e1, e2⟩ := List.cons.inj e
    rw [List.map_cons, List.map_cons, firsts_eq room bs (fun x hx => h1 x (List.mem_cons_of_mem _ hx)) e2 fun x hx => hl x (List.mem_cons_of_mem _ hx), fpR_lead (q := q) (h1 c List.mem_cons_self).2 (by rw [← e1]; exact hl b List.mem_cons_self)]
/-- the rows by the free places, as vectors -/
theorem IsPF.cross (hF : Fld (q : Int)) {n : Nat} {room : List (List Int)} (h : IsPF q n room) : ∃ bs : List (Nat × Vec q), PF n bs ∧ bs.map (·.2) = room.map (toV (q := q)) ∧ ((freesR n room).map (crossR q n room)).map (toV (q := q)) = (frees n bs).map (crossV bs) := by
  obtain ⟨ok, bs, pf, e⟩ := h
  have ld : ∀ b ∈ bs, Lead b.2 b.1 := fun b hb => pf.leads (one_ne (q2 hF)) hb
  have ef := firsts_eq room bs ok e ld
  refine ⟨bs, pf, e, ?_⟩
  have e1 : freesR n room = frees n bs := by
    unfold freesR frees isFirst
    rw [ef]
  rw [e1, List.map_map]
  apply List.map_congr_left
  intro j hj
  obtain ⟨jn, jf⟩ := mem_frees.mp hj
  have hz : ∀ b ∈ bs, ((List.replicate n (0 : Int)).set j 1).getD b.1 0 = 0 := fun b hb => by
    rw [getD_set (by rw [List.length_replicate]; exact jn), if_neg (jf b hb), gd_lt (by rw [List.length_replicate]; exact pf.lt b hb), List.getElem_replicate]
  show toV (q := q) (crossF q room j ((List.replicate n 0).set j 1)) = crossV bs j
  rw [crossF_sim (n := n) j room bs _ ok (by rw [List.length_set, List.length_replicate]) e (fun b hb => ⟨ld b hb, pf.lt b hb⟩) pf.inc hz]
  funext i
  have eu : toV (q := q) ((List.replicate n (0 : Int)).set j 1) i = unitV j i := by
    show cF (((List.replicate n (0 : Int)).set j 1).getD i 0) = _
    rw [getD_set (by rw [List.length_replicate]; exact jn)]
    unfold unitV
    by_cases hij : i = j
    · rw [if_pos hij, if_pos hij, cF_one (q2 hF)]
    · rw [if_neg hij, if_neg hij]
      by_cases hi : i < n
      · rw [gd_lt (by rw [List.length_replicate]; exact hi), List.getElem_replicate, cF_zero]
      · rw [gd_ge (by rw [List.length_replicate]; omega), cF_zero]
  rw [eu]
  grind
theorem free_rows {p : Int} (hp : 2 ≤ p) (n : Nat) (room : List (List Int)) : RowsOk p n ((freesR n room).map (crossR p n room)) := fun r hr => by
  obtain ⟨j, _, rfl⟩ := List.mem_map.mp hr
  exact crossR_ok hp n room j
theorem acrossR_perp (hF : Fld (q : Int)) {n : Nat} {room : List (List Int)} (h : IsPF q n room) (w : Vec q) : Mk q (acrossR q n room) w ↔ Perp n (Mk q room) w := by
  obtain ⟨bs, pf, e, ec⟩ := h.cross hF
  unfold acrossR
  rw [plainR_mk hF (free_rows hF.1 n room)]
  unfold Mk
  rw [ec, ← e]
  exact pf.perp_spn w
theorem good (hF : Fld (q : Int)) (n : Nat) : Good (invF (q := q)) n := ⟨one_ne (q2 hF), invF_ok hF⟩
theorem acrossR_pf (hF : Fld (q : Int)) (n : Nat) (room : List (List Int)) : IsPF q n (acrossR q n room) := plainR_pf hF (free_rows hF.1 n room)
/-- a row is of the room just where it is worth 0 at all worlds across -/
theorem perp_across (hF : Fld (q : Int)) {n : Nat} {room : List (List Int)} (h : IsPF q n room) (x : Vec q) : Perp n (Mk q (acrossR q n room)) x ↔ Mk q room x := by
  obtain ⟨_, bs, pb, eb⟩ := id h
  obtain ⟨_, cs, pc, ec⟩ := acrossR_pf hF n room
  have := (good hF n).perp_perp pb pc (fun w => by
    have := acrossR_perp hF h w
    unfold Mk at this
    rwa [← eb, ← ec] at this) x
  unfold Mk
  rwa [← eb, ← ec]
/-! ### worth -/
theorem dot_sum {n : Nat} {x y : List Int} (hx : x.length = n) (hy : y.length = n) : ∀ k, k ≤ n → cF (q := q) ((List.zipWith (fun a b => a * b) x y).take k).sum = dot k (toV x) (toV y)
  | 0, _ => by
    rw [List.take_zero, List.sum_nil, cF_zero]
    rfl
  | k + 1, hk => by
    have g1 : x[k]? = some x[k] := List.getElem?_eq_getElem (by omega)
    have g2 : y[k]? = some y[k] := List.getElem?_eq_getElem (by omega)
    rw [sum_take (z := x[k] * y[k]) (by rw [List.getElem?_zipWith, g1, g2]), cF_add, dot_sum hx hy k (by omega), cF_mul]
    show _ = dot k (toV x) (toV y) + cF (x.getD k 0) * cF (y.getD k 0)
    rw [gd_lt (r := x) (by omega), gd_lt (r := y) (by omega)]
theorem worth_dot {n : Nat} {x y : List Int} (hx : x.length = n) (hy : y.length = n) : cF (q := q) (worthR q x y) = dot n (toV x) (toV y) := by
  unfold worthR
  rw [cF_mod, ← dot_sum hx hy n (Nat.le_refl n), List.take_of_length_le (by rw [List.length_zipWith]; omega)]
theorem worth_zero {n : Nat} {x y : List Int} (hx : x.length = n) (hy : y.length = n) : worthR q x y = 0 ↔ dot n (toV (q := q) x) (toV y) = 0 := by
  rw [← worth_dot hx hy]
  have := cF_ne (q := q) (worth_bd (p := q) (x := x) (y := y) q_pos)
  constructor
  · intro h
    rw [h, cF_zero]
  · intro h
    apply Classical.byContradiction
    intro hn
    exact this.mpr hn h
theorem spn_dot {n : Nat} {rows : List (List Int)} {w : Vec q} (h : ∀ r ∈ rows, dot n (toV (q := q) r) w = 0) {x : Vec q} (hx : Mk q rows x) : dot n x w = 0 := by
  have S : Sub (fun x : Vec q => dot n x w = 0) := dot_sub n w 0
  refine spn_le S (fun v hv => ?_) hx
  obtain ⟨r, hr, rfl⟩ := List.mem_map.mp hv
  exact h r hr
end
theorem PFR.across {p : Int} (hF : Fld p) (n : Nat) (room : List (List Int)) : PFR p n (acrossR p n room) := PFR.of_plain hF (free_rows hF.1 n room)
/-- the rows of a room are worth 0 at all worlds across -/
theorem across_worth {p : Int} (hF : Fld p) {n : Nat} {rows : List (List Int)} (h : RowsOk p n rows) {r w : List Int} (hr : r ∈ rows) (hw : w ∈ acrossR p n (plainR p n rows)) : worthR p r w = 0 := by
  obtain ⟨q, rfl, _, hF⟩ := to_q hF
  have pf := plainR_pf hF h
  have ok := (acrossR_pf hF n (plainR q n rows)).1
  refine (worth_zero (h r hr).1 (ok w hw).1).mpr ?_
  have hp := (acrossR_perp hF pf (toV w)).mp (spn_mem (List.mem_map_of_mem hw))
  exact hp.2 _ ((plainR_mk hF h _).mpr (spn_mem (List.mem_map_of_mem hr)))
/-- a row is parted by some world across just where it isn't made -/
theorem across_parts {p : Int} (hF : Fld p) {n : Nat} {rows : List (List Int)} (h : RowsOk p n rows) {r : List Int} (hr : RowsOk p n [r]) : (∀ w ∈ acrossR p n (plainR p n rows), worthR p r w = 0) ↔ hasR p n rows r = true := by
  obtain ⟨q, rfl, _, hF⟩ := to_q hF
  have pf := plainR_pf hF h
  have ok := (acrossR_pf hF n (plainR q n rows)).1
  have okr := hr r List.mem_cons_self
  have e : hasR q n rows r = true ↔ Mk q rows (toV r) := by
    unfold hasR
    rw [decide_eq_true_iff]
    exact plainR_has hF h hr
  rw [e, ← plainR_mk hF h, ← perp_across hF pf]
  constructor
  · intro hz
    refine ⟨fun i hi => toV_wid okr.1 i hi, fun x hx => ?_⟩
    refine spn_dot (fun w hw => ?_) hx
    rw [dot_comm]
    exact (worth_zero okr.1 (ok w hw).1).mp (hz w hw)
  · intro hp w hw
    refine (worth_zero okr.1 (ok w hw).1).mpr ?_
    rw [dot_comm]
    exact hp.2 _ (spn_mem (List.mem_map_of_mem hw))
end OC
set_option Elab.async false
set_option linter.all false
set_option maxRecDepth 100000
set_option maxHeartbeats 2000000
/-! repr of any thing, lists with dicts too: the modules' own dict is none of them -/
set_option Elab.async false
set_option linter.all false
set_option maxRecDepth 100000
/-! how rows are made: marked rows, taken off -/
namespace Lin
section
variable {p : Nat} [NeZero p]
theorem lin_pair : ∀ (fs : List (Fin p)) (us vs : List (Vec p)), us.length = vs.length → lin fs (List.zipWith addV us vs) = addV (lin fs us) (lin fs vs)
  | [], us, vs, _ => by
    rw [lin_nil, lin_nil, lin_nil]
    funext i
    show (0 : Fin p) = 0 + 0
    grind
  | f :: fs, [], [], _ => by
    show zeroV = addV zeroV zeroV
    funext i
    show (0 : Fin p) = 0 + 0
    grind
  | f :: fs, [], _ :: _, e => by cases e
  | f :: fs, _ :: _, [], e => by cases e
  | f :: fs, u :: us, v :: vs, e => by
    show addV (mulV f (addV u v)) (lin fs (List.zipWith addV us vs)) = addV (addV (mulV f u) (lin fs us)) (addV (mulV f v) (lin fs vs))
    rw [lin_pair fs us vs (Nat.succ.inj e)]
    funext i
    show f * (u i + v i) + (lin fs us i + lin fs vs i) = (f * u i + lin fs us i) + (f * v i + lin fs vs i)
    grind
def unitsV (p : Nat) [NeZero p] (o : Nat) : Nat → List (Vec p)
  | 0 => []
  | s + 1 => unitV o :: unitsV p (o + 1) s
theorem unitsV_len (o : Nat) : ∀ s, (unitsV p o s).length = s
  | 0 => rfl
  | s + 1 => by show (unitsV p (o + 1) s).length + 1 = s + 1; rw [unitsV_len (o + 1) s]
theorem lin_units : ∀ (fs : List (Fin p)) (o j : Nat), lin fs (unitsV p o fs.length) j = if o ≤ j then fs.getD (j - o) 0 else 0
  | [], o, j => by
    show (0 : Fin p) = _
    split <;> rfl
  | f :: fs, o, j => by
    show f * (if j = o then (1 : Fin p) else 0) + lin fs (unitsV p (o + 1) fs.length) j = _
    rw [lin_units fs (o + 1) j]
    rcases Nat.lt_trichotomy j o with h | h | h
    · rw [if_neg (by omega), if_neg (by omega), if_neg (by omega)]
      grind
    · subst h
      rw [if_pos rfl, if_neg (by omega), if_pos (Nat.le_refl _), Nat.sub_self]
      show f * 1 + 0 = f
      grind
    · rw [if_neg (by omega), if_pos (by omega), if_pos (by omega)]
      have e : j - o = (j - (o + 1)) + 1 := by omega
      rw [e]
      show f * 0 + fs.getD (j - (o + 1)) 0 = fs.getD (j - (o + 1)) 0
      grind
theorem lin_low {n : Nat} : ∀ (fs : List (Fin p)) (vs : List (Vec p)), (∀ v ∈ vs, ∀ i, n ≤ i → v i = 0) → ∀ i, n ≤ i → lin fs vs i = 0
  | [], vs, _, i, _ => by rw [lin_nil]; rfl
  | f :: fs, [], _, i, _ => rfl
  | f :: fs, v :: vs, h, i, hi => by
    show f * v i + lin fs vs i = 0
    rw [lin_low fs vs (fun x hx => h x (List.mem_cons_of_mem _ hx)) i hi, h v List.mem_cons_self i hi]
    grind
theorem lin_pad : ∀ (fs : List (Fin p)) (vs : List (Vec p)), ∃ gs : List (Fin p), gs.length = vs.length ∧ lin gs vs = lin fs vs
  | _, [] => ⟨[], rfl, by rw [lin_nil', lin_nil']⟩
  | [], v :: vs => by
    obtain ⟨gs, h1, h2⟩ := lin_pad [] vs
    refine ⟨0 :: gs, by rw [List.length_cons, List.length_cons, h1], ?_⟩
    show addV (mulV 0 v) (lin gs vs) = _
    rw [h2, lin_nil, lin_nil]
    funext i
    show 0 * v i + 0 = (0 : Fin p)
    grind
  | f :: fs, v :: vs => by
    obtain ⟨gs, h1, h2⟩ := lin_pad fs vs
    refine ⟨f :: gs, by rw [List.length_cons, List.length_cons, h1], ?_⟩
    show addV (mulV f v) (lin gs vs) = addV (mulV f v) (lin fs vs)
    rw [h2]
theorem lin_snoc : ∀ (fs : List (Fin p)) (vs : List (Vec p)) (c : Fin p) (v : Vec p), fs.length = vs.length → lin (fs ++ [c]) (vs ++ [v]) = addV (lin fs vs) (mulV c v)
  | [], [], c, v, _ => by
    show addV (mulV c v) zeroV = addV zeroV (mulV c v)
    funext i
    show c * v i + 0 = 0 + c * v i
    grind
  | [], _ :: _, _, _, e => by cases e
  | _ :: _, [], _, _, e => by cases e
  | f :: fs, u :: us, c, v, e => by
    show addV (mulV f u) (lin (fs ++ [c]) (us ++ [v])) = addV (addV (mulV f u) (lin fs us)) (mulV c v)
    rw [lin_snoc fs us c v (Nat.succ.inj e)]
    funext i
    show f * u i + (lin fs us i + c * v i) = f * u i + lin fs us i + c * v i
    grind
/-- no row is made by those ahead of it -/
def Free (vs : List (Vec p)) : Prop := ∀ k v, vs[k]? = some v → ¬ Spn (vs.take k) v
theorem Free.init {vs : List (Vec p)} {v : Vec p} (h : Free (vs ++ [v])) : Free vs ∧ ¬ Spn vs v := by
  constructor
  · intro k u hu
    have hk : k < vs.length := (List.getElem?_eq_some_iff.mp hu).1
    have := h k u (by rw [List.getElem?_append_left hk]; exact hu)
    rwa [List.take_append_of_le_length (by omega)] at this
  · have := h vs.length v (by rw [List.getElem?_append_right (Nat.le_refl _), Nat.sub_self]; rfl)
    rwa [List.take_append_of_le_length (Nat.le_refl _), List.take_length] at this
theorem Free.zero (inv : Fin p → Fin p) (hinv : ∀ a : Fin p, a ≠ 0 → inv a * a = 1) : ∀ (m : Nat) (vs : List (Vec p)) (fs : List (Fin p)), vs.length = m → Free vs → fs.length = vs.length → lin fs vs = zeroV → ∀ f ∈ fs, f = 0
  | 0, vs, fs, hm, _, hl, _ => by
    intro f hf
    rw [hm] at hl
    rw [List.length_eq_zero_iff.mp hl] at hf
    cases hf
  | m + 1, vs, fs, hm, hF, hl, hz => by
    obtain ⟨vs', v, rfl⟩ : ∃ vs' v, vs = vs' ++ [v] := by
      rcases List.eq_nil_or_concat vs with h | ⟨a, b, h⟩
      · rw [h] at hm; cases hm
      · exact ⟨a, b, by rw [h]; exact List.concat_eq_append⟩
    obtain ⟨fs', c, rfl⟩ : ∃ fs' c, fs = fs' ++ [c] := by
      rcases List.eq_nil_or_concat fs with h | ⟨a, b, h⟩
      · rw [h, hm] at hl; cases hl
      · exact ⟨a, b, by rw [h]; exact List.concat_eq_append⟩
    rw [List.length_append, List.length_append] at hl
    have hl' : fs'.length = vs'.length := by simpa using hl
    obtain ⟨h1, h2⟩ := hF.init
    rw [lin_snoc fs' vs' c v hl'] at hz
    have c0 : c = 0 := by
      apply Classical.byContradiction
      intro hc
      apply h2
      have hS := spn_sub vs'
      have h3 : Spn vs' (lin fs' vs') := ⟨fs', rfl⟩
      have h4 := hS.mul (-(inv c)) h3
      have e : v = mulV (-(inv c)) (lin fs' vs') := by
        funext i
        have e1 := congrFun hz i
        have e1 : lin fs' vs' i + c * v i = 0 := e1
        have e2 := hinv c hc
        show v i = -(inv c) * lin fs' vs' i
        have e3 : lin fs' vs' i = -(c * v i) := by grind
        rw [e3]
        have : inv c * c * v i = v i := by rw [e2]; grind
        grind
      rw [e]
      exact h4
    have hz' : lin fs' vs' = zeroV := by
      funext i
      have e1 := congrFun hz i
      have e1 : lin fs' vs' i + c * v i = 0 := e1
      rw [c0] at e1
      show lin fs' vs' i = 0
      grind
    intro f hf
    rcases List.mem_append.mp hf with hf | hf
    · exact Free.zero inv hinv m vs' fs' (by rw [List.length_append] at hm; simpa using hm) h1 hl' hz' f hf
    · have : f = c := by simpa using hf
      rw [this]
      exact c0
/-- the first places of marked rows are all ahead of the marks; what is left of a row that is made has noughts there -/
theorem marked_left (inv : Fin p → Fin p) (hinv : ∀ a : Fin p, a ≠ 0 → inv a * a = 1) (h1 : (1 : Fin p) ≠ 0) {n : Nat} {vs : List (Vec p)} (hw : ∀ v ∈ vs, ∀ i, n ≤ i → v i = 0) (hF : Free vs) {bs : List (Nat × Vec p)} {m : Nat} (pf : PF m bs)
    (hb : ∀ x, Spn (bs.map (·.2)) x ↔ Spn (List.zipWith addV vs (unitsV p n vs.length)) x) {x : Vec p} (hx : ∀ i, n ≤ i → x i = 0) :
    ((∀ i, i < n → leftV bs x i = 0) ↔ Spn vs x) ∧ ((∀ i, i < n → leftV bs x i = 0) → ∃ fs : List (Fin p), fs.length = vs.length ∧ x = lin fs vs ∧ ∀ j, j < vs.length → fs.getD j 0 = -(leftV bs x (n + j))) := by
  have hl : vs.length = (unitsV p n vs.length).length := (unitsV_len n vs.length).symm
  have eq : ∀ fs : List (Fin p), fs.length = vs.length → ∀ i, lin fs (List.zipWith addV vs (unitsV p n vs.length)) i = lin fs vs i + if n ≤ i then fs.getD (i - n) 0 else 0 := fun fs hf i => by
    rw [lin_pair fs vs _ hl]
    show lin fs vs i + lin fs (unitsV p n vs.length) i = _
    rw [← hf, lin_units]
  have leads : ∀ b ∈ bs, b.1 < n := fun b hbm => by
    apply Classical.byContradiction
    intro hge
    have hs := (hb b.2).mp (spn_mem (List.mem_map_of_mem hbm))
    obtain ⟨fs0, e0⟩ := hs
    obtain ⟨fs, lf, ef⟩ := lin_pad fs0 (List.zipWith addV vs (unitsV p n vs.length))
    have lz : (List.zipWith addV vs (unitsV p n vs.length)).length = vs.length := by rw [List.length_zipWith, ← hl, Nat.min_self]
    rw [lz] at lf
    have hz : lin fs vs = zeroV := by
      funext i
      show lin fs vs i = 0
      by_cases hi : n ≤ i
      · exact lin_low fs vs hw i hi
      · have := eq fs lf i
        rw [if_neg hi, ef, ← e0, pf.low b hbm i (by omega)] at this
        grind
    have fz := Free.zero inv hinv _ vs fs rfl hF lf hz
    have bz : b.2 b.1 = 0 := by
      have := eq fs lf b.1
      rw [ef, ← e0] at this
      rw [this, congrFun hz b.1]
      have gz : fs.getD (b.1 - n) 0 = 0 := by
        rw [List.getD_eq_getElem?_getD]
        cases hg : fs[b.1 - n]? with
        | none => rfl
        | some f => exact fz f (List.mem_of_getElem? hg)
      rw [gz]
      show (0 : Fin p) + (if n ≤ b.1 then 0 else 0) = 0
      split <;> grind
    rw [pf.one b hbm] at bz
    exact h1 bz
  -- what is left differs from the row by factors
  have diff : ∃ fs : List (Fin p), fs.length = vs.length ∧ ∀ i, leftV bs x i = x i - (lin fs vs i + if n ≤ i then fs.getD (i - n) 0 else 0) := by
    obtain ⟨fs0, e0⟩ := (hb (red bs x)).mp (spn_red bs x)
    obtain ⟨fs, lf, ef⟩ := lin_pad fs0 (List.zipWith addV vs (unitsV p n vs.length))
    have lz : (List.zipWith addV vs (unitsV p n vs.length)).length = vs.length := by rw [List.length_zipWith, ← hl, Nat.min_self]
    rw [lz] at lf
    refine ⟨fs, lf, fun i => ?_⟩
    show x i - red bs x i = _
    rw [← eq fs lf i, ef, ← e0]
  obtain ⟨fs, lf, hd⟩ := diff
  have sound : (∀ i, i < n → leftV bs x i = 0) → x = lin fs vs := fun hz => by
    funext i
    by_cases hi : n ≤ i
    · rw [hx i hi, lin_low fs vs hw i hi]
    · have h2 := hd i
      rw [hz i (by omega), if_neg hi] at h2
      grind
  refine ⟨⟨fun hz => ⟨fs, sound hz⟩, fun hs i hi => ?_⟩, fun hz => ⟨fs, lf, sound hz, fun j hj => ?_⟩⟩
  · obtain ⟨gs0, e0⟩ := hs
    obtain ⟨gs, lg, eg⟩ := lin_pad gs0 vs
    -- the row less what is made is noughts and the factors' contraries
    have hy : Spn (bs.map (·.2)) (lin gs (List.zipWith addV vs (unitsV p n vs.length))) := (hb _).mpr ⟨gs, rfl⟩
    have e1 : x = addV (lin gs (List.zipWith addV vs (unitsV p n vs.length))) (fun i => -(if n ≤ i then gs.getD (i - n) 0 else 0)) := by
      funext i
      show x i = lin gs (List.zipWith addV vs (unitsV p n vs.length)) i + -(if n ≤ i then gs.getD (i - n) 0 else 0)
      rw [eq gs lg i, e0, ← eg]
      grind
    have e2 : red bs x = lin gs (List.zipWith addV vs (unitsV p n vs.length)) := by
      rw [e1, red_add, pf.told hy]
      have : red bs (fun i => -(if n ≤ i then gs.getD (i - n) 0 else 0)) = zeroV := red_none bs _ fun b hbm => by
        show -(if n ≤ b.1 then gs.getD (b.1 - n) 0 else 0) = 0
        rw [if_neg (by have := leads b hbm; omega)]
        grind
      rw [this]
      funext i
      show _ + (0 : Fin p) = _
      grind
    show x i - red bs x i = 0
    rw [e2, eq gs lg i, if_neg (by omega), e0, ← eg]
    grind
  · have h2 := hd (n + j)
    rw [hx (n + j) (by omega), lin_low fs vs hw (n + j) (by omega), if_pos (by omega), show n + j - n = j by omega] at h2
    grind
end
end Lin
namespace OC
open PySem PySem.Spec PyProof.Rows L2 Lin
theorem row_noughts' {p : Int} (hp : 0 < p) (n : Nat) : (List.replicate n (0 : Int)).length = n ∧ ∀ x ∈ List.replicate n (0 : Int), 0 ≤ x ∧ x < p := ⟨List.length_replicate, fun x hx => by
  rw [List.eq_of_mem_replicate hx]
  omega⟩
def markR (s i : Nat) : List Int := List.replicate i 0 ++ [1] ++ List.replicate (s - i - 1) 0
def markedR (S : List (List Int)) : List (List Int) := (List.range S.length).map fun i => S.getD i [] ++ markR S.length i
def restR (p : Int) (n : Nat) (S : List (List Int)) (r : List Int) : List Int := leftR p (plainR p (n + S.length) (markedR S)) (r ++ List.replicate S.length 0)
def factorsR (p : Int) (m : Nat) (kts : List (Nat × Int)) : List Int := kts.foldl (fun F kt => F.set kt.1 ((-kt.2) % p)) (List.replicate m 0)
theorem markR_len {s i : Nat} (h : i < s) : (markR s i).length = s := by
  unfold markR
  rw [List.length_append, List.length_append, List.length_replicate, List.length_replicate]
  simp
  omega
theorem markR_getD {s i : Nat} (h : i < s) (j : Nat) : (markR s i).getD j 0 = if j = i then 1 else 0 := by
  unfold markR
  rw [List.getD_eq_getElem?_getD]
  rcases Nat.lt_trichotomy j i with hj | hj | hj
  · rw [if_neg (by omega), List.append_assoc, List.getElem?_append_left (by rw [List.length_replicate]; exact hj), List.getElem?_replicate, if_pos hj]
    rfl
  · subst hj
    rw [if_pos rfl, List.append_assoc, List.getElem?_append_right (by rw [List.length_replicate]; exact Nat.le_refl _), List.length_replicate, Nat.sub_self]
    rfl
  · rw [if_neg (by omega), List.getElem?_append_right (by rw [List.length_append, List.length_replicate]; simp; omega), List.length_append, List.length_replicate]
    by_cases hs : j < s
    · rw [List.getElem?_replicate, if_pos (by simp; omega)]
      rfl
    · rw [List.getElem?_replicate, if_neg (by simp; omega)]
      rfl
theorem app_getD {x y : List Int} {n : Nat} (hx : x.length = n) (j : Nat) : (x ++ y).getD j 0 = if j < n then x.getD j 0 else y.getD (j - n) 0 := by
  by_cases h : j < n
  · rw [if_pos h, List.getD_eq_getElem?_getD, List.getElem?_append_left (by omega), ← List.getD_eq_getElem?_getD]
  · rw [if_neg h, List.getD_eq_getElem?_getD, List.getElem?_append_right (by omega), hx, ← List.getD_eq_getElem?_getD]
theorem markedR_ok {p : Int} (hp : 2 ≤ p) {n : Nat} {S : List (List Int)} (h : RowsOk p n S) : RowsOk p (n + S.length) (markedR S) := fun r hr => by
  obtain ⟨i, hi, rfl⟩ := List.mem_map.mp hr
  have hi := List.mem_range.mp hi
  have hS := h (S.getD i []) (by rw [List.getD_eq_getElem?_getD, List.getElem?_eq_getElem hi]; exact List.getElem_mem hi)
  refine ⟨by rw [List.length_append, hS.1, markR_len hi], fun x hx => ?_⟩
  rcases List.mem_append.mp hx with hx | hx
  · exact hS.2 x hx
  · unfold markR at hx
    rcases List.mem_append.mp hx with hx | hx
    · rcases List.mem_append.mp hx with hx | hx
      · rw [List.eq_of_mem_replicate hx]
        omega
      · have : x = 1 := by simpa using hx
        omega
    · rw [List.eq_of_mem_replicate hx]
      omega
section
variable {q : Nat} [NeZero q]
theorem unitsV_get (o : Nat) : ∀ (s i : Nat), i < s → (unitsV q o s)[i]? = some (unitV (o + i))
  | 0, i, h => absurd h (Nat.not_lt_zero _)
  | s + 1, 0, _ => rfl
  | s + 1, i + 1, h => by
    show (unitsV q (o + 1) s)[i]? = _
    rw [unitsV_get (o + 1) s i (by omega)]
    congr 2
    omega
theorem markedR_toV (hF : Fld (q : Int)) {n : Nat} {S : List (List Int)} (h : RowsOk q n S) : (markedR S).map (toV (q := q)) = List.zipWith addV (S.map (toV (q := q))) (unitsV q n S.length) := by
  apply List.ext_getElem?
  intro i
  unfold markedR
  rw [List.map_map, List.getElem?_map]
  by_cases hi : i < S.length
  · have g1 : (List.range S.length)[i]? = some i := by rw [List.getElem?_eq_getElem (by rw [List.length_range]; exact hi), List.getElem_range]
    have g2 : (S.map (toV (q := q)))[i]? = some (toV S[i]) := by rw [List.getElem?_map, List.getElem?_eq_getElem hi]; rfl
    rw [g1, List.getElem?_zipWith, g2, unitsV_get n S.length i hi]
    show some (toV (q := q) (S.getD i [] ++ markR S.length i)) = some (addV (toV S[i]) (unitV (n + i)))
    congr 1
    have eS : S.getD i [] = S[i] := by rw [List.getD_eq_getElem?_getD, List.getElem?_eq_getElem hi]; rfl
    have hS := h S[i] (List.getElem_mem hi)
    funext j
    show cF ((S.getD i [] ++ markR S.length i).getD j 0) = cF (S[i].getD j 0) + unitV (n + i) j
    rw [eS, app_getD hS.1, markR_getD hi]
    unfold unitV
    by_cases hj : j < n
    · rw [if_pos hj, if_neg (by omega)]
      grind
    · rw [if_neg hj, gd_ge (r := S[i]) (by omega), cF_zero]
      by_cases e : j = n + i
      · rw [if_pos e, if_pos (by omega), cF_one (q2 hF)]
        grind
      · rw [if_neg e, if_neg (by omega), cF_zero]
        grind
  · rw [List.getElem?_eq_none (by rw [List.length_range]; omega), List.getElem?_eq_none (by rw [List.length_zipWith, List.length_map]; omega)]
    rfl
theorem someR_free (hF : Fld (q : Int)) {n : Nat} {rs : List (List Int)} (h : RowsOk q n rs) : Free ((someR q n rs).map (toV (q := q))) := by
  intro k v hv
  have okS := someR_ok (p := q) (n := n) h
  obtain ⟨_, _, fc⟩ := someR_all hF rs h
  have hk : k < (someR q n rs).length := by
    have := (List.getElem?_eq_some_iff.mp hv).1
    rwa [List.length_map] at this
  rw [List.getElem?_map, List.getElem?_eq_getElem hk] at hv
  have ev : v = toV (someR q n rs)[k] := (Option.some.inj hv).symm
  subst ev
  have hm : k ∈ needR q n (someR q n rs) := by rw [fc]; exact List.mem_range.mpr hk
  have hg := of_decide_eq_true (List.mem_filter.mp hm).2
  have eapp : (someR q n rs).take (k + 1) = (someR q n rs).take k ++ [(someR q n rs)[k]] := by
    rw [List.take_add_one, List.getElem?_eq_getElem hk]
    rfl
  rw [eapp] at hg
  have := (plainR_grows hF (fun x hx => okS x (List.mem_of_mem_take hx)) (rowsOk_one (okS _ (List.getElem_mem hk)))).mp hg
  unfold Mk at this
  rwa [List.map_take] at this
theorem toV_plus {x y : List Int} (h : x.length = y.length) (m : Int) : toV (q := q) (plusR q x y m) = addV (toV x) (mulV (cF m) (toV y)) := by
  funext i
  show cF ((plusR q x y m).getD i 0) = cF (x.getD i 0) + cF m * cF (y.getD i 0)
  unfold plusR
  by_cases hi : i < x.length
  · rw [getD_zipWith _ h hi, cF_mod, cF_add, cF_mul]
  · rw [gd_ge (by rw [List.length_zipWith]; omega), gd_ge (r := x) (by omega), gd_ge (r := y) (by omega), cF_zero]
    grind
theorem toV_made {n : Nat} : ∀ (rs : List (List Int)) (F z : List Int), z.length = n → (∀ r ∈ rs, r.length = n) → F.length = rs.length → toV (q := q) (madeR q z (rs.zip F)) = addV (toV z) (lin (F.map (cF (q := q))) (rs.map (toV (q := q))))
  | [], [], z, _, _, _ => by
    funext i
    show toV z i = toV z i + 0
    grind
  | [], _ :: _, _, _, _, e => by cases e
  | _ :: _, [], _, _, _, e => by cases e
  | r :: rs, f :: F, z, hz, hr, e => by
    show toV (q := q) (madeR q (plusR q z r f) (rs.zip F)) = _
    have lz : z.length = r.length := by rw [hz, hr r List.mem_cons_self]
    rw [toV_made rs F (plusR q z r f) (by rw [plus_len lz]; exact hz) (fun x hx => hr x (List.mem_cons_of_mem _ hx)) (Nat.succ.inj e), toV_plus lz]
    funext i
    show toV z i + cF f * toV r i + lin (F.map cF) (rs.map toV) i = toV z i + (cF f * toV r i + lin (F.map cF) (rs.map toV) i)
    grind
theorem lin_set : ∀ (F : List (Fin q)) (vs : List (Vec q)) (k : Nat) (c : Fin q) (v : Vec q), F.length = vs.length → F[k]? = some 0 → vs[k]? = some v → lin (F.set k c) vs = addV (lin F vs) (mulV c v)
  | [], _, _, _, _, _, h, _ => by simp at h
  | _ :: _, [], _, _, _, e, _, _ => by cases e
  | f :: F, u :: us, 0, c, v, e, h1, h2 => by
    have h1 : f = 0 := Option.some.inj h1
    have h2 : u = v := Option.some.inj h2
    subst h1 h2
    show addV (mulV c u) (lin F us) = addV (addV (mulV 0 u) (lin F us)) (mulV c u)
    funext i
    show c * u i + lin F us i = 0 * u i + lin F us i + c * u i
    grind
  | f :: F, u :: us, k + 1, c, v, e, h1, h2 => by
    show addV (mulV f u) (lin (F.set k c) us) = addV (addV (mulV f u) (lin F us)) (mulV c v)
    rw [lin_set F us k c v (Nat.succ.inj e) h1 h2]
    funext i
    show f * u i + (lin F us i + c * v i) = f * u i + lin F us i + c * v i
    grind
/-- the factors of the needed rows, set at their numbers -/
theorem lin_sets (vs : List (Vec q)) : ∀ (kts : List (Nat × Int)) (F : List Int), F.length = vs.length → (∀ kt ∈ kts, kt.1 < vs.length ∧ F[kt.1]? = some 0) → (kts.map (·.1)).Nodup →
    lin ((kts.foldl (fun F kt => F.set kt.1 ((-kt.2) % q)) F).map (cF (q := q))) vs = addV (lin (F.map (cF (q := q))) vs) (lin (kts.map fun kt => -(cF (q := q) kt.2)) (kts.map fun kt => vs.getD kt.1 zeroV))
  | [], F, _, _, _ => by
    funext i
    show _ = _ + (0 : Fin q)
    show lin (F.map cF) vs i = lin (F.map cF) vs i + 0
    grind
  | kt :: kts, F, hl, h, nd => by
    obtain ⟨h1, h2⟩ := h kt List.mem_cons_self
    rw [List.map_cons, List.nodup_cons] at nd
    show lin ((kts.foldl (fun F kt => F.set kt.1 ((-kt.2) % q)) (F.set kt.1 ((-kt.2) % q))).map (cF (q := q))) vs = _
    rw [lin_sets vs kts (F.set kt.1 ((-kt.2) % q)) (by rw [List.length_set]; exact hl) (fun x hx => by
      refine ⟨(h x (List.mem_cons_of_mem _ hx)).1, ?_⟩
      rw [List.getElem?_set_ne (fun e => nd.1 (by rw [e]; exact List.mem_map_of_mem hx))]
      exact (h x (List.mem_cons_of_mem _ hx)).2) nd.2]
    rw [List.map_set, lin_set (F.map cF) vs kt.1 _ (vs.getD kt.1 zeroV) (by rw [List.length_map]; exact hl) (by rw [List.getElem?_map, h2]; show some (cF 0) = _; rw [cF_zero]) (by rw [List.getD_eq_getElem?_getD, List.getElem?_eq_getElem h1]; rfl), cF_mod, cF_neg]
    funext i
    show lin (F.map cF) vs i + -cF kt.2 * vs.getD kt.1 zeroV i + lin _ _ i = lin (F.map cF) vs i + (-cF kt.2 * vs.getD kt.1 zeroV i + lin _ _ i)
    grind
theorem someR_get (n : Nat) (rs : List (List Int)) : (someR q n rs).map (toV (q := q)) = (needR q n rs).map fun k => (rs.map (toV (q := q))).getD k zeroV := by
  unfold someR
  rw [List.map_map]
  apply List.map_congr_left
  intro k hk
  have hk' := needR_lt hk
  show toV (q := q) (rs.getD k []) = (rs.map (toV (q := q))).getD k zeroV
  rw [List.getD_eq_getElem?_getD, List.getD_eq_getElem?_getD, List.getElem?_map, List.getElem?_eq_getElem hk']
  rfl
theorem replicate_app_ok {n s : Nat} {r : List Int} (hp : 0 < (q : Int)) (hr : RowsOk q n [r]) : RowsOk q (n + s) [r ++ List.replicate s 0] := by
  have h := hr r List.mem_cons_self
  refine rowsOk_one ⟨by rw [List.length_append, h.1, List.length_replicate], fun x hx => ?_⟩
  rcases List.mem_append.mp hx with hx | hx
  · exact h.2 x hx
  · rw [List.eq_of_mem_replicate hx]
    omega
/-- what makes tells -/
theorem makes_facts (hF : Fld (q : Int)) {n : Nat} {rs : List (List Int)} (h : RowsOk q n rs) {r : List Int} (hr : RowsOk q n [r]) :
    ((∀ x ∈ (restR q n (someR q n rs) r).take n, x = 0) ↔ hasR q n rs r = true) ∧ ((∀ x ∈ (restR q n (someR q n rs) r).take n, x = 0) → madeR q (List.replicate n 0) (rs.zip (factorsR q rs.length ((needR q n rs).zip ((restR q n (someR q n rs) r).drop n)))) = r) := by
  have okS := someR_ok (p := q) (n := n) h
  have okr := hr r List.mem_cons_self
  have okM := markedR_ok hF.1 okS
  have okx := replicate_app_ok (s := (someR q n rs).length) q_pos hr
  obtain ⟨mkS, _, _⟩ := someR_all hF rs h
  have lenk : (needR q n rs).length = (someR q n rs).length := needR_len _ _ _
  have fr := someR_free hF h
  have gs := someR_get (q := q) n rs
  unfold restR
  generalize hS : someR q n rs = S at *
  obtain ⟨bs, pf, eb, okl, et⟩ := (plainR_pf hF okM).left hF okx
  have okl := okl _ List.mem_cons_self
  have hb : ∀ x, Spn (bs.map (·.2)) x ↔ Spn (List.zipWith addV (S.map (toV (q := q))) (unitsV q n (S.map (toV (q := q))).length)) x := fun x => by
    rw [eb, List.length_map, ← markedR_toV hF okS]
    exact plainR_mk hF okM x
  have ex : toV (q := q) (r ++ List.replicate S.length 0) = toV r := by
    funext j
    show cF ((r ++ List.replicate S.length 0).getD j 0) = cF (r.getD j 0)
    rw [app_getD okr.1]
    by_cases hj : j < n
    · rw [if_pos hj]
    · rw [if_neg hj, gd_ge (r := r) (by omega)]
      congr 1
      rw [List.getD_eq_getElem?_getD, List.getElem?_replicate]
      split <;> rfl
  rw [ex] at et
  obtain ⟨m1, m2⟩ := marked_left invF (invF_ok hF) (one_ne (q2 hF)) (fun v hv i hi => by
    obtain ⟨x, mx, rfl⟩ := List.mem_map.mp hv
    exact toV_wid (okS x mx).1 i hi) fr pf hb (x := toV r) (fun i hi => toV_wid okr.1 i hi)
  generalize leftR q (plainR q (n + S.length) (markedR S)) (r ++ List.replicate S.length 0) = t at okl et
  have tz : (∀ x ∈ t.take n, x = 0) ↔ ∀ i, i < n → leftV bs (toV r) i = 0 := by
    constructor
    · intro hz i hi
      rw [← et]
      refine (toV_eq0 okl.2 i).mpr ?_
      rw [gd_lt (by omega)]
      refine hz _ ?_
      rw [List.mem_iff_getElem?]
      exact ⟨i, by rw [List.getElem?_take, if_pos hi, List.getElem?_eq_getElem (by omega)]⟩
    · intro hz x hx
      obtain ⟨i, hi⟩ := List.mem_iff_getElem?.mp hx
      rw [List.getElem?_take] at hi
      by_cases hin : i < n
      · rw [if_pos hin] at hi
        have := hz i hin
        rw [← et] at this
        have := (toV_eq0 okl.2 i).mp this
        rw [List.getD_eq_getElem?_getD, hi] at this
        exact this
      · rw [if_neg hin] at hi
        cases hi
  have hh : hasR q n rs r = true ↔ Mk q rs (toV r) := by
    unfold hasR
    rw [decide_eq_true_iff]
    exact plainR_has hF h hr
  refine ⟨by rw [tz, m1, hh]; exact mkS (toV r), fun hz => ?_⟩
  obtain ⟨fs, lf, e1, e2⟩ := m2 (tz.mp hz)
  rw [List.length_map] at lf e2
  -- the factors told
  have lt : (t.drop n).length = S.length := by rw [List.length_drop, okl.1]; omega
  have lzip : ((needR q n rs).zip (t.drop n)).length = S.length := by rw [List.length_zip, lenk, lt, Nat.min_self]
  have lF : ∀ (kts : List (Nat × Int)) (F : List Int), (kts.foldl (fun F kt => F.set kt.1 ((-kt.2) % q)) F).length = F.length := by
    intro kts
    induction kts with
    | nil => intro F; rfl
    | cons kt kts ih => intro F; show (kts.foldl _ (F.set kt.1 _)).length = _; rw [ih, List.length_set]
  have okz := row_noughts' (p := (q : Int)) q_pos n
  have hlen : (factorsR q rs.length ((needR q n rs).zip (t.drop n))).length = rs.length := by
    unfold factorsR
    rw [lF, List.length_replicate]
  have em := toV_made (q := q) rs (factorsR q rs.length ((needR q n rs).zip (t.drop n))) (List.replicate n 0) List.length_replicate (fun x hx => (h x hx).1) hlen
  have el := lin_sets (q := q) (rs.map (toV (q := q))) ((needR q n rs).zip (t.drop n)) (List.replicate rs.length 0) (by rw [List.length_replicate, List.length_map]) (fun kt hkt => by
    have hk := needR_lt (List.of_mem_zip hkt).1
    exact ⟨by rw [List.length_map]; exact hk, by rw [List.getElem?_replicate, if_pos hk]⟩) (by
    rw [List.map_fst_zip (by omega)]
    exact (List.nodup_range).filter _)
  have ez : lin ((List.replicate rs.length (0 : Int)).map (cF (q := q))) (rs.map (toV (q := q))) = zeroV := by
    have : ∀ (m : Nat) (vs : List (Vec q)), lin ((List.replicate m (0 : Int)).map (cF (q := q))) vs = zeroV := by
      intro m
      induction m with
      | zero => intro vs; exact lin_nil vs
      | succ m ih =>
        intro vs
        cases vs with
        | nil => exact lin_nil' _
        | cons v vs =>
          rw [List.replicate_succ, List.map_cons]
          show addV (mulV (cF 0) v) (lin _ vs) = zeroV
          rw [ih vs, cF_zero]
          funext i
          show 0 * v i + 0 = (0 : Fin q)
          grind
    exact this _ _
  have e3 : ((needR q n rs).zip (t.drop n)).map (fun kt => -(cF (q := q) kt.2)) = fs := by
    apply List.ext_getElem?
    intro i
    rw [List.getElem?_map]
    by_cases hi : i < S.length
    · have g1 : (t.drop n)[i]? = some (t.getD (n + i) 0) := by
        rw [List.getElem?_drop, List.getElem?_eq_getElem (by omega), gd_lt (by omega)]
      have g0 : (needR q n rs)[i]? = some (needR q n rs)[i] := List.getElem?_eq_getElem (by omega)
      have gz : ((needR q n rs).zip (t.drop n))[i]? = some ((needR q n rs)[i], t.getD (n + i) 0) := by
        rw [List.getElem?_zip_eq_some]
        exact ⟨g0, g1⟩
      rw [gz, List.getElem?_eq_getElem (by omega)]
      have := e2 i hi
      rw [← et] at this
      rw [List.getD_eq_getElem?_getD, List.getElem?_eq_getElem (show i < fs.length by omega)] at this
      show some (-(cF (q := q) (t.getD (n + i) 0))) = some fs[i]
      congr 1
      exact this.symm
    · rw [List.getElem?_eq_none (by omega), List.getElem?_eq_none (by omega)]
      rfl
  have e4 : ((needR q n rs).zip (t.drop n)).map (fun kt => (rs.map (toV (q := q))).getD kt.1 zeroV) = S.map (toV (q := q)) := by
    rw [gs, ← List.map_fst_zip (l₁ := needR q n rs) (l₂ := t.drop n) (by omega), List.map_map]
    rw [List.map_fst_zip (by omega)]
    rfl
  refine toV_inj ?_ ?_ okr.2 ?_
  · rw [made_len q n _ _ List.length_replicate fun x hx => (h x.1 (List.of_mem_zip hx).1).1, okr.1]
  · exact made_ok q_pos _ _ okz.2
  · rw [em]
    unfold factorsR
    rw [el, ez, e3, e4, ← e1]
    funext i
    have : toV (q := q) (List.replicate n (0 : Int)) i = 0 := by
      show cF ((List.replicate n (0 : Int)).getD i 0) = 0
      rw [List.getD_eq_getElem?_getD, List.getElem?_replicate]
      split
      · exact cF_zero
      · exact cF_zero
    show toV (List.replicate n 0) i + (0 + toV r i) = toV r i
    rw [this]
    grind
end
end OC
set_option Elab.async false
set_option linter.all false
set_option maxRecDepth 100000
set_option maxHeartbeats 2000000
namespace OC
open PySem PySem.Spec PyProof.Rows L2
/-! ### a tuple taken no times -/
theorem tuple_mul0 (l : Addr) (its : Array Value) (m : Nat) (od : Option Addr) (so : Array (Option Value)) (u : Tok) (hne : its.isEmpty = false) :
    Meets (Builtin.«tuple.__mul__» ⟨[.ref l, .int 0 u], []⟩) (fun _ R s => s.heap.get? l = some { cls := .type "tuple", dict := od, data := .seq its m, slots := so } ∧ R (.ok (.ret (Value.ref s.heap.objs.size))) { s with heap := s.heap.push { cls := Value.type "tuple", data := Data.seq #[] }, toks := s.toks }) := by
  refine .of_wp fun prog w A R s hh => ?_
  obtain ⟨hp, g, d, tk, os⟩ := s
  obtain ⟨hl, hR⟩ := hh
  have fi := AutoSeq1.idx_int
  have c0 : (decide ((0 : Int) < -(2 ^ 63)) || decide ((0 : Int) ≥ 2 ^ 63)) = false := by decide
  have c1 : (its.isEmpty || (0 : Int) == 1) = false := by rw [hne]; rfl
  have c2 : (decide ((0 : Int) ≤ 0) || its.isEmpty) = true := by simp
  wp_walk using wpAny_loadPart' hl
  first
    | exact ⟨_, rfl, hR⟩
    | (repeat (first
        | (refine wpAny_ite_false (decide_eq_false (by rw [c0]; exact Bool.false_ne_true)) ?_; wp_walk using wpAny_loadPart' hl)
        | (refine wpAny_ite_false (decide_eq_false (by rw [c1]; exact Bool.false_ne_true)) ?_; wp_walk using wpAny_loadPart' hl)
        | (refine wpAny_ite_true (decide_eq_true (by rw [c2])) ?_; wp_walk using wpAny_loadPart' hl))
       exact ⟨_, rfl, hR⟩)
/-- t * n, n from 0 on, whichever tuple it is -/
def rRepZ (K : PySem.W.Frag) : R2 := fun x y H Q => ∃ l k xs, x = .ref l ∧ y = .int k ∧ SqT K H l xs ∧ xs ≠ [] ∧ 0 ≤ k ∧ k ≤ 1000 ∧ xs.length ≤ 1000 ∧ ∀ p H', Same H H' → SqT K H' p (List.replicate k.toNat xs).flatten → Q (.ref p) H'
theorem op_repZ {X : Cx} : OpR X (binaryOp .Mult) (rRepZ X.K) := by
  intro pins s σ H x y v u Q I rx ry h
  obtain ⟨l, k, xs, ex, ey, hT, hne, h1, h2, hz, q⟩ := h
  by_cases hk : k = 0
  · subst hk ex ey
    cases rx
    obtain ⟨t, rfl⟩ := ry
    obtain ⟨its, r, ⟨⟨cls, dd, data, sl⟩, ho, hc, n, hd⟩, hs⟩ := I.tuple hT
    simp only at hc hd
    subst hc hd
    have hi : its.toArray.isEmpty = false := by
      cases its with
      | nil => exact absurd (List.eq_nil_of_length_eq_zero (by rw [r.length]; rfl)) hne
      | cons a b => rfl
    refine wpAny_binaryOp_repeat_ref (T := "tuple") (U := "int") (by decide) ⟨_, ho, rfl⟩ (fun s' => typeIs_int s' 0 t) noFill_tuple_mul F.fills_int_mul F.slot_int_rmul repeat_tuple F.slot_int_index.lookup ?_
    refine call_meets F.slot_int_rmul (typeIs_int s 0 t) F.entry_int_rmul (F.args_int_rmul_2 _ _) (int_rmul_tuple 0 t l its.toArray n dd sl) ⟨ho, rfl, ⟨_, ho, rfl⟩, ?_⟩
    refine call_meets F.slot_tuple_mul ⟨_, ho, rfl⟩ F.entry_tuple_mul (F.args_tuple_mul_2 _ _) (tuple_mul0 l its.toArray n dd sl t hi) ⟨ho, ?_⟩
    have fr := I.hok.fresh (Nat.le_refl s.heap.objs.size)
    exact ⟨.ref s.heap.objs.size, _, I.laid (t' := s.toks) (o := .tup []) (fun b ob z => Heap.get?_push_of_some _ z) (Nat.le_refl _) ⟨Nat.zero_le _, [], .nil, IsTup.new _ _⟩, rfl, q _ _ (same_upd fr) (.inl (.inl upd_same))⟩
  · exact op_repB pins s σ H x y v u Q I rx ry ⟨l, k, xs, ex, ey, hT, hne, by omega, h2, hz, q⟩
theorem makesI {p : Int} (hF : Fld p) {n : Nat} {rs : List (List Int)} (h : RowsOk p n rs) {r : List Int} (hr : RowsOk p n [r]) :
    ((∀ x ∈ (restR p n (someR p n rs) r).take n, x = 0) ↔ hasR p n rs r = true) ∧ ((∀ x ∈ (restR p n (someR p n rs) r).take n, x = 0) → madeR p (List.replicate n 0) (rs.zip (factorsR p rs.length ((needR p n rs).zip ((restR p n (someR p n rs) r).drop n)))) = r) := by
  obtain ⟨q, rfl, _, hF⟩ := to_q hF
  exact makes_facts hF h hr
theorem factorsR_len (p : Int) (m : Nat) (kts : List (Nat × Int)) : (factorsR p m kts).length = m := by
  have lF : ∀ (kts : List (Nat × Int)) (F : List Int), (kts.foldl (fun F kt => F.set kt.1 ((-kt.2) % p)) F).length = F.length := by
    intro kts
    induction kts with
    | nil => intro F; rfl
    | cons kt kts ih => intro F; show (kts.foldl _ (F.set kt.1 _)).length = _; rw [ih, List.length_set]
  unfold factorsR
  rw [lF, List.length_replicate]
theorem factorsR_ok {p : Int} (hp : 0 < p) (m : Nat) (kts : List (Nat × Int)) : ∀ x ∈ factorsR p m kts, 0 ≤ x ∧ x < p := by
  have lF : ∀ (kts : List (Nat × Int)) (F : List Int), (∀ x ∈ F, 0 ≤ x ∧ x < p) → ∀ x ∈ kts.foldl (fun F kt => F.set kt.1 ((-kt.2) % p)) F, 0 ≤ x ∧ x < p := by
    intro kts
    induction kts with
    | nil => intro F h; exact h
    | cons kt kts ih =>
      intro F h
      refine ih _ fun x hx => ?_
      rcases List.mem_or_eq_of_mem_set hx with hx | rfl
      · exact h x hx
      · exact ⟨Int.emod_nonneg _ (by omega), Int.emod_lt_of_pos _ hp⟩
  refine lF kts _ fun x hx => ?_
  rw [List.eq_of_mem_replicate hx]
  omega
theorem factorsR_take {p : Int} {m i : Nat} {kts : List (Nat × Int)} {kt : Nat × Int} (h : kts[i]? = some kt) : factorsR p m (kts.take (i + 1)) = (factorsR p m (kts.take i)).set kt.1 ((-kt.2) % p) := by
  unfold factorsR
  rw [List.take_add_one, h, List.foldl_append]
  rfl
def sp_needed (K : PySem.W.Frag) : Sp := fun vs H Q _ => ∃ (a : Addr) (ws : List V) (rs : List (List Int)) (p : Int) (n : Nat), vs = [.int p, .int (n : Int), .ref a] ∧ SqT K H a ws ∧ DpAll K H ws (rs.map rowD) ∧ rs.length ≤ 100 ∧ RowsOk p n rs ∧ Fld p ∧ p ≤ 1000 ∧ n ≤ 100 ∧
  ∀ (H' : Hp) (l : Addr), Same H H' → H' l = some (.tup (numsV (needR p n rs))) → Q (.ref l) H'
end OC
set_option Elab.async false
set_option linter.all false
set_option maxRecDepth 100000
set_option maxHeartbeats 4000000
/-! the text of a tuple of rows tells the rows -/
set_option Elab.async false
set_option linter.all false
set_option maxRecDepth 100000
set_option maxHeartbeats 4000000
/-! what rows make, by p -/
namespace OC
open PySem PySem.Spec PyProof.Rows L2 Lin
/-- the rows make the row -/
def InR (p : Int) (rs : List (List Int)) (r : List Int) : Prop := ∀ (q : Nat) (_ : NeZero q), p = (q : Int) → Mk q rs (toV (q := q) r)
theorem InR.mem {p : Int} {rs : List (List Int)} {r : List Int} (h : r ∈ rs) : InR p rs r := fun q _ _ => spn_mem (List.mem_map_of_mem h)
theorem InR.mono {p : Int} {rs ts : List (List Int)} {r : List Int} (h : ∀ x ∈ rs, InR p ts x) (hr : InR p rs r) : InR p ts r := fun q z e =>
  spn_sub_of (fun v hv => by
    obtain ⟨x, mx, rfl⟩ := List.mem_map.mp hv
    exact h x mx q z e) (hr q z e)
theorem toV_noughts {q : Nat} [NeZero q] (n : Nat) : toV (q := q) (List.replicate n 0) = zeroV := by
  funext i
  unfold toV zeroV
  rw [show (List.replicate n (0 : Int)).getD i 0 = 0 by
    rw [List.getD_eq_getElem?_getD]
    by_cases h : i < n
    · simp [h]
    · simp [h]]
  exact cF_zero
theorem InR.plus {p : Int} {rs : List (List Int)} {x y : List Int} (m : Int) (hl : x.length = y.length) (hx : InR p rs x) (hy : InR p rs y) : InR p rs (plusR p x y m) := fun q z e => by
  subst e
  rw [toV_plus hl]
  exact (spn_sub _).add (hx q z rfl) ((spn_sub _).mul _ (hy q z rfl))
theorem hasR_in {p : Int} (hF : Fld p) {n : Nat} {rs : List (List Int)} {r : List Int} (h : RowsOk p n rs) (hr : RowsOk p n [r]) : hasR p n rs r = true ↔ InR p rs r := by
  obtain ⟨q, rfl, z, hq⟩ := to_q hF
  unfold hasR
  rw [decide_eq_true_iff, plainR_has hF h hr]
  constructor
  · intro hm q' z' e
    have : q = q' := by omega
    subst this
    exact hm
  · intro hm
    exact hm q z rfl
theorem plain_same {p : Int} (hF : Fld p) {n : Nat} {one other : List (List Int)} (h1 : RowsOk p n one) (h2 : RowsOk p n other) (a : ∀ r ∈ one, InR p other r) (b : ∀ r ∈ other, InR p one r) : plainR p n one = plainR p n other := by
  obtain ⟨q, rfl, z, hq⟩ := to_q hF
  refine plainR_congr hF h1 h2 fun x => ⟨fun hx => ?_, fun hx => ?_⟩
  · exact spn_sub_of (fun v hv => by
      obtain ⟨y, my, rfl⟩ := List.mem_map.mp hv
      exact a y my q z rfl) hx
  · exact spn_sub_of (fun v hv => by
      obtain ⟨y, my, rfl⟩ := List.mem_map.mp hv
      exact b y my q z rfl) hx
theorem plain_one_more {p : Int} (hF : Fld p) {n : Nat} {rs : List (List Int)} {r : List Int} (h : RowsOk p n rs) (hr : RowsOk p n [r]) : (plainR p n (rs ++ [r])).length = (plainR p n rs).length + (if hasR p n rs r = true then 0 else 1) := by
  by_cases hh : hasR p n rs r = true
  · rw [if_pos hh]
    exact of_decide_eq_true hh
  · rw [if_neg hh]
    obtain ⟨q, rfl, z, hq⟩ := to_q hF
    refine plainR_more hF h hr fun hm => hh ?_
    unfold hasR
    rw [decide_eq_true_iff, plainR_has hF h hr]
    exact hm
end OC
set_option Elab.async false
set_option linter.all false
set_option maxRecDepth 100000
set_option maxHeartbeats 4000000
/-! a display of one pair whose key is a tuple -/
set_option Elab.async false
set_option linter.all false
set_option maxRecDepth 100000
set_option maxHeartbeats 4000000
/-! dicts whose keys are rows; all rows that rows make -/
set_option Elab.async false
set_option linter.all false
set_option maxRecDepth 100000
set_option maxHeartbeats 4000000
/-! lists of rows that stand by themselves; all rows -/
namespace OC
open PySem PySem.Spec PyProof.Rows L2
theorem small10k {n : Nat} (h : n ≤ 10000) : n < sizeLine := by rw [sizeLine_eq]; omega
inductive TAll (H : Hp) : List V → List (List Int) → Prop
  | nil : TAll H [] []
  | cons {b : Addr} {g : List Int} {vs : List V} {gs : List (List Int)} : H b = some (.tup (g.map V.int)) → TAll H vs gs → TAll H (.ref b :: vs) (g :: gs)
theorem TAll.same {H H' : Hp} (s : Same H H') : ∀ {vs : List V} {gs : List (List Int)}, TAll H vs gs → TAll H' vs gs
  | _, _, .nil => .nil
  | _, _, .cons h t => .cons (s _ _ h) (t.same s)
theorem TAll.app {H : Hp} : ∀ {vs us : List V} {gs hs : List (List Int)}, TAll H vs gs → TAll H us hs → TAll H (vs ++ us) (gs ++ hs)
  | _, _, _, _, .nil, h => h
  | _, _, _, _, .cons h t, h2 => .cons h (t.app h2)
theorem TAll.len {H : Hp} : ∀ {vs : List V} {gs : List (List Int)}, TAll H vs gs → vs.length = gs.length
  | _, _, .nil => rfl
  | _, _, .cons _ t => by rw [List.length_cons, List.length_cons, t.len]
theorem TAll.get {H : Hp} : ∀ {vs : List V} {gs : List (List Int)} {i : Nat} {v : V}, TAll H vs gs → vs[i]? = some v → ∃ b g, v = .ref b ∧ gs[i]? = some g ∧ H b = some (.tup (g.map V.int))
  | _, _, _, _, .nil, h => by simp at h
  | _, _, 0, _, .cons (b := b) (g := g) h t, e => by cases e; exact ⟨b, g, rfl, rfl, h⟩
  | _, _, i + 1, v, .cons h t, e => t.get (i := i) (v := v) e
def nzsR (r : List Int) (k : Nat) : List Nat := (List.range k).filter fun i => decide (r.getD i 0 ≠ 0)
theorem nzs_head {r : List Int} (h : fpR r < r.length) : (nzsR r r.length)[0]? = some (fpR r) := by
  rw [← List.head?_eq_getElem?]
  unfold nzsR
  rw [List.head?_filter, List.find?_range_eq_some]
  exact ⟨decide_eq_true (fpR_at h), List.mem_range.mpr h, fun j hj => by
    rw [decide_eq_false (by rw [fpR_low hj]; simp)]
    rfl⟩
theorem TAll.mut {H : Hp} {D : Addr} {xs : List V} {o : HO} (e : H D = some (.lst xs)) : ∀ {vs : List V} {gs : List (List Int)}, TAll H vs gs → TAll (upd H D o) vs gs
  | _, _, .nil => .nil
  | _, _, .cons h t => .cons (by rw [upd_ne (fun z => by rw [z, e] at h; cases h)]; exact h) (t.mut e)
end OC
set_option Elab.async false
set_option linter.all false
set_option maxRecDepth 100000
set_option maxHeartbeats 4000000
/-! min and max of a tuple of ints -/
set_option Elab.async false
set_option linter.all false
set_option maxRecDepth 100000
set_option maxHeartbeats 4000000
/-! what is left of a row -/
namespace OC
open PySem PySem.Spec PyProof.Rows L2 Lin
theorem left_at {p : Int} (hF : Fld p) {n : Nat} {room : List (List Int)} (h : PFR p n room) {r : List Int} (hr : RowsOk p n [r]) {c : List Int} (hc : c ∈ room) : (leftR p room r).getD (fpR c) 0 = 0 := by
  obtain ⟨q, rfl, z, hF⟩ := to_q hF
  obtain ⟨bs, pf, e, ok, et⟩ := ((isPF_iff hF).mpr h).left hF hr
  refine (toV_eq0 (q := q) (ok _ List.mem_cons_self).2 _).mp ?_
  have m : toV (q := q) c ∈ bs.map (·.2) := by rw [e]; exact List.mem_map_of_mem hc
  obtain ⟨b, mb, eb⟩ := List.mem_map.mp m
  have fj : fpR c = b.1 := fpR_lead (q := q) (h.1 c hc).2 (by rw [← eb]; exact pf.leads (one_ne (q2 hF)) mb)
  rw [et, fj]
  exact Lin.left_at pf _ mb
theorem noughts_iff {r : List Int} {n : Nat} (h : r.length = n) : r = List.replicate n 0 ↔ ∀ x ∈ r, x = 0 := by
  rw [List.eq_replicate_iff]
  exact ⟨fun z => z.2, fun z => ⟨h, z⟩⟩
theorem left_iff {p : Int} (hF : Fld p) {n : Nat} {room : List (List Int)} (h : PFR p n room) {r : List Int} (hr : RowsOk p n [r]) : decide (leftR p room r = List.replicate n 0) = hasR p n room r := by
  have l := (PFR.left_ok hF h hr _ List.mem_cons_self).1
  have e := PFR.left_has hF h hr
  unfold hasR
  rw [decide_eq_decide, noughts_iff l]
  exact e
end OC
namespace OC
theorem plus_row {p : Int} (hp : 0 < p) {x y : List Int} {n : Nat} (hx : x.length = n) (hy : y.length = n) (m : Int) : (plusR p x y m).length = n ∧ ∀ v ∈ plusR p x y m, 0 ≤ v ∧ v < p := ⟨by rw [plus_len (by rw [hx, hy]), hx], plus_ok hp⟩
end OC
namespace OC
theorem InR.plain {p : Int} (hF : Fld p) {n : Nat} {rs : List (List Int)} (h : RowsOk p n rs) {r : List Int} : InR p (plainR p n rs) r ↔ InR p rs r := ⟨fun hx q z e => by
    subst e
    exact (plainR_mk hF h _).mp (hx q z rfl), fun hx q z e => by
    subst e
    exact (plainR_mk hF h _).mpr (hx q z rfl)⟩
theorem hasR_plain {p : Int} (hF : Fld p) {n : Nat} {rs : List (List Int)} (h : RowsOk p n rs) {r : List Int} (hr : RowsOk p n [r]) : hasR p n (plainR p n rs) r = true ↔ InR p rs r := by
  rw [hasR_in hF (PFR.of_plain hF h).1 hr, InR.plain hF h]
end OC
set_option Elab.async false
set_option linter.all false
set_option maxRecDepth 100000
set_option maxHeartbeats 4000000
/-! rows and lists of them: what laws over rooms share -/
namespace OC
open PySem PySem.Spec PyProof.Rows L2
section
variable {K : PySem.W.Frag} {H : Hp} {bad : Addr → Prop}
theorem repAll_rows : ∀ {ws : List V} {rs : List (List Int)}, RepAll K H bad ws (rs.map rowD) → DpAll K H ws (rs.map rowD)
  | _, [], h => by cases h; exact .nil
  | _, r :: rs, h => by
    cases h with
    | cons h1 h2 =>
      obtain ⟨l, rfl, hl⟩ := rep_row h1
      exact .cons (row_dp hl) (repAll_rows (rs := rs) h2)
def rowsD : PyData → List (List Int)
  | .tuple ds => ds.map intsOf
  | _ => []
theorem rowsD_rows (rs : List (List Int)) : rowsD (.tuple (rs.map rowD)) = rs := by
  show (rs.map rowD).map intsOf = rs
  rw [List.map_map]
  have : (intsOf ∘ rowD) = id := by
    funext r
    exact ints_row r
  rw [this, List.map_id]
theorem RowsAt.dp {a : Addr} {rs : List (List Int)} (h : RowsAt K H a rs) : Dp K H (.ref a) (.tuple (rs.map rowD)) := by
  obtain ⟨ws, h1, h2⟩ := h
  exact .tup h1 h2
end
theorem rep_bls {K : PySem.W.Frag} {H : Hp} {bad : Addr → Prop} : ∀ {ws : List V} {bs : List Bool}, RepAll K H bad ws (bs.map PyData.bool) → ws = bs.map V.bl
  | _, [], h => by cases h; rfl
  | _, b :: bs, h => by
    cases h with
    | cons h1 h2 =>
      cases h1
      rw [rep_bls (bs := bs) h2]
      rfl
end OC
set_option Elab.async false
set_option linter.all false
set_option maxRecDepth 100000
set_option maxHeartbeats 4000000
/-! rooms joined and shared -/
namespace OC
open PySem PySem.Spec PyProof.Rows L2 Lin
def joinR (p : Int) (n : Nat) (one other : List (List Int)) : List (List Int) := plainR p n (one ++ other)
def meetR (p : Int) (n : Nat) (one other : List (List Int)) : List (List Int) := acrossR p n (joinR p n (acrossR p n one) (acrossR p n other))
section
variable {p : Int} {n : Nat} {one other : List (List Int)}
theorem join_pf (hF : Fld p) (h1 : RowsOk p n one) (h2 : RowsOk p n other) : PFR p n (joinR p n one other) := PFR.of_plain hF (rowsOk_app h1 h2)
theorem meet_pf (hF : Fld p) : PFR p n (meetR p n one other) := PFR.across hF n _
theorem PFR.ext (hF : Fld p) (h1 : PFR p n one) (h2 : PFR p n other) (a : ∀ r ∈ one, InR p other r) (b : ∀ r ∈ other, InR p one r) : one = other := by
  have := plain_same hF h1.1 h2.1 a b
  rw [h1.2, h2.2] at this
  exact this
theorem meet_mk {q : Nat} [NeZero q] (hF : Fld (q : Int)) (h1 : PFR q n one) (h2 : PFR q n other) (x : Vec q) : Mk q (meetR q n one other) x ↔ Mk q one x ∧ Mk q other x := by
  have i1 := (isPF_iff hF).mpr h1
  have i2 := (isPF_iff hF).mpr h2
  have ja : RowsOk q n (acrossR q n one ++ acrossR q n other) := rowsOk_app (acrossR_pf hF n one).1 (acrossR_pf hF n other).1
  have jp : IsPF q n (joinR q n (acrossR q n one) (acrossR q n other)) := plainR_pf hF ja
  unfold meetR
  rw [acrossR_perp hF jp]
  have e : Mk q (joinR q n (acrossR q n one) (acrossR q n other)) = Mk q (acrossR q n one ++ acrossR q n other) := by
    funext y
    exact propext (plainR_mk hF ja y)
  rw [e, ← perp_across hF i1, ← perp_across hF i2]
  unfold Mk
  rw [List.map_append]
  exact perp_app x
theorem InR.meet (hF : Fld p) (h1 : PFR p n one) (h2 : PFR p n other) (r : List Int) : InR p (meetR p n one other) r ↔ InR p one r ∧ InR p other r := by
  constructor
  · intro h
    exact ⟨fun q z e => by subst e; exact ((meet_mk hF h1 h2 _).mp (h q z rfl)).1, fun q z e => by subst e; exact ((meet_mk hF h1 h2 _).mp (h q z rfl)).2⟩
  · rintro ⟨a, b⟩ q z e
    subst e
    exact (meet_mk hF h1 h2 _).mpr ⟨a q z rfl, b q z rfl⟩
theorem InR.left {ts : List (List Int)} {r : List Int} (h : InR p one r) : InR p (one ++ ts) r := InR.mono (fun x hx => InR.mem (List.mem_append_left _ hx)) h
theorem InR.right {ts : List (List Int)} {r : List Int} (h : InR p ts r) : InR p (one ++ ts) r := InR.mono (fun x hx => InR.mem (List.mem_append_right _ hx)) h
theorem InR.join (hF : Fld p) (h1 : RowsOk p n one) (h2 : RowsOk p n other) {r : List Int} : InR p (joinR p n one other) r ↔ InR p (one ++ other) r := InR.plain hF (rowsOk_app h1 h2)
theorem pf_dim {q : Nat} [NeZero q] (hF : Fld (q : Int)) {room : List (List Int)} (h : PFR q n room) : dim invF n (room.map (toV (q := q))) = room.length := by
  have := plainR_len h.1
  rw [h.2] at this
  exact this.symm
theorem all_in (hF : Fld p) (h1 : RowsOk p n one) (h2 : RowsOk p n other) : one.all (hasR p n other) = true ↔ ∀ r ∈ one, InR p other r := by
  rw [List.all_eq_true]
  exact ⟨fun h r mr => (hasR_in hF h2 (rowsOk_one (h1 r mr))).mp (h r mr), fun h r mr => (hasR_in hF h2 (rowsOk_one (h1 r mr))).mpr (h r mr)⟩
end
theorem PFR.len {p : Int} {n : Nat} {room : List (List Int)} (hF : Fld p) (h : PFR p n room) : room.length ≤ n := by
  have := plainR_lenle hF h.1
  rwa [h.2] at this
end OC
set_option Elab.async false
set_option linter.all false
set_option maxRecDepth 100000
set_option maxHeartbeats 4000000
/-! across: the more a room has, the less -/
set_option Elab.async false
set_option linter.all false
set_option maxRecDepth 100000
set_option maxHeartbeats 4000000
/-! sorted of a list of rows, and of a dict whose keys are rows -/
namespace OC
open PySem PySem.Spec PyProof.Rows L2 SrtO
theorem TAll.perm {H : Hp} {xs ys : List V} (h : ys.Perm xs) : ∀ {gs : List (List Int)}, TAll H xs gs → ∃ hs, TAll H ys hs ∧ hs.Perm gs := by
  induction h with
  | nil => exact fun t => ⟨_, t, .refl _⟩
  | cons x _ ih =>
    intro gs t
    cases t with
    | cons h1 t1 =>
      obtain ⟨hs, a, b⟩ := ih t1
      exact ⟨_, .cons h1 a, .cons _ b⟩
  | swap x y l =>
    intro gs t
    cases t with
    | cons h1 t1 =>
      cases t1 with
      | cons h2 t2 => exact ⟨_, .cons h2 (.cons h1 t2), .swap _ _ _⟩
  | trans _ _ i1 i2 =>
    intro gs t
    obtain ⟨hs, a, b⟩ := i2 t
    obtain ⟨ks, c, d⟩ := i1 a
    exact ⟨ks, c, d.trans b⟩
theorem TAll.mem {H : Hp} : ∀ {xs : List V} {gs : List (List Int)}, TAll H xs gs → ∀ x ∈ xs, ∃ b g, x = .ref b ∧ g ∈ gs ∧ H b = some (.tup (g.map V.int))
  | _, _, .nil, x, hx => (nomatch hx)
  | _, _, .cons (b := b) (g := g) h t, x, hx => by
    rcases List.mem_cons.mp hx with rfl | hx
    · exact ⟨b, g, rfl, List.mem_cons_self, h⟩
    · obtain ⟨b', g', e, m, h'⟩ := t.mem x hx
      exact ⟨b', g', e, List.mem_cons_of_mem _ m, h'⟩
theorem TAll.dp {K : PySem.W.Frag} {H : Hp} : ∀ {vs : List V} {gs : List (List Int)}, TAll H vs gs → DpAll K H vs (gs.map rowD)
  | _, _, .nil => .nil
  | _, _, .cons h t => .cons (row_dp (.inl (.inl h))) t.dp
end OC
set_option Elab.async false
set_option linter.all false
set_option maxRecDepth 100000
set_option maxHeartbeats 4000000
/-! rows of a room by their numbers; worlds alike -/
namespace Lin
end Lin
namespace OC
open PySem PySem.Spec PyProof.Rows L2 Lin
def combR (p : Int) (n : Nat) (room : List (List Int)) (fs : List Int) : List Int := madeR p (List.replicate n 0) (room.zip fs)
section
variable {p : Int} {n : Nat} {room : List (List Int)} {fs : List Int}
theorem made_bd (hp : 0 < p) : ∀ (l : List (List Int × Int)) (z : List Int), (∀ x ∈ z, 0 ≤ x ∧ x < p) → ∀ x ∈ madeR p z l, 0 ≤ x ∧ x < p
  | [], _, h => h
  | _ :: l, _, _ => made_bd hp l _ (plus_ok hp)
theorem comb_ok (hF : Fld p) (h : PFR p n room) : RowsOk p n [combR p n room fs] := by
  have h2 := hF.1
  exact rowsOk_one ⟨made_len p n _ _ List.length_replicate fun x hx => (h.1 x.1 (List.of_mem_zip hx).1).1, made_bd (by omega) _ _ (row_noughts' (by omega) n).2⟩
theorem comb_toV {q : Nat} [NeZero q] (h : RowsOk q n room) (hl : fs.length = room.length) : toV (q := q) (combR q n room fs) = lin (fs.map (cF (q := q))) (room.map (toV (q := q))) := by
  unfold combR
  rw [toV_made room fs _ List.length_replicate (fun r hr => (h r hr).1) hl, toV_noughts, Lin.zero_add]
theorem comb_in (h : PFR p n room) (hl : fs.length = room.length) : InR p room (combR p n room fs) := fun q z e => by
  subst e
  rw [comb_toV h.1 hl]
  exact ⟨_, rfl⟩
end
/-! ### figures -/
/-! ### worlds -/
end OC
set_option Elab.async false
set_option linter.all false
set_option maxRecDepth 100000
set_option maxHeartbeats 4000000
/-! rows led by an exchange of places; what rows are worth tells what a row is worth -/
namespace OC
open PySem PySem.Spec PyProof.Rows L2 Lin
section
variable {p : Int} {n : Nat} {rs : List (List Int)} {r : List Int} {pl : List Nat}
theorem worth_nought0 {x : List Int} : worthR p x (List.replicate n 0) = 0 := by
  have : ∀ (x : List Int) (n : Nat), (List.zipWith (fun a b => a * b) x (List.replicate n 0)).sum = 0 := by
    intro x
    induction x with
    | nil => intro n; rfl
    | cons a x ih =>
      intro n
      cases n with
      | zero => rfl
      | succ n => rw [List.replicate_succ, List.zipWith_cons_cons, List.sum_cons, ih n, Int.mul_zero]; rfl
  unfold worthR
  rw [this, Int.zero_emod]
end
end OC
set_option Elab.async false
set_option linter.all false
set_option maxRecDepth 100000
set_option maxHeartbeats 4000000
/-! plain rows in any order: what is left of a row, and one row more -/
namespace Lin
section
variable {p : Nat} [NeZero p]
theorem red_perm {l m : List (Nat × Vec p)} (h : l.Perm m) (x : Vec p) : red l x = red m x := by
  induction h with
  | nil => rfl
  | cons b _ ih =>
    show addV (mulV (x b.1) b.2) _ = addV (mulV (x b.1) b.2) _
    rw [ih]
  | swap a b l =>
    funext i
    show x b.1 * b.2 i + (x a.1 * a.2 i + red l x i) = x a.1 * a.2 i + (x b.1 * b.2 i + red l x i)
    grind
  | trans _ _ i1 i2 => exact i1.trans i2
end
end Lin
namespace OC
open PySem PySem.Spec PyProof.Rows L2 Lin
section
variable {q : Nat} [NeZero q]
def pairV (b : List Int) : Nat × Vec q := (fpR b, toV (q := q) b)
theorem pairs_of : ∀ (room : List (List Int)) (bs : List (Nat × Vec q)), room.map fpR = bs.map (·.1) → bs.map (·.2) = room.map (toV (q := q)) → bs = room.map (pairV (q := q))
  | [], [], _, _ => rfl
  | [], _ :: _, h, _ => by cases h
  | _ :: _, [], h, _ => by cases h
  | c :: room, b :: bs, h1, h2 => by
    rw [List.map_cons, List.map_cons] at h1 h2
    obtain ⟨a1, a2⟩ := List.cons.inj h1
    obtain ⟨b1, b2⟩ := List.cons.inj h2
    rw [List.map_cons, ← pairs_of room bs a2 b2]
    congr 1
    exact Prod.ext a1.symm b1
theorem left_any (hF : Fld (q : Int)) {n : Nat} {room found : List (List Int)} (h : IsPF q n room) (pm : found.Perm room) {r : List Int} (hr : RowsOk q n [r]) : leftR q found r = leftR q room r := by
  obtain ⟨ok, bs, pf, e⟩ := h
  have ld : ∀ b ∈ bs, Lead b.2 b.1 := fun b hb => pf.leads (one_ne (q2 hF)) hb
  have eb := pairs_of room bs (firsts_eq room bs ok e ld) e
  have pc : (found.map (pairV (q := q))).Perm bs := by
    rw [eb]
    exact pm.map _
  have okf : RowsOk q n found := fun x hx => ok x (pm.mem_iff.mp hx)
  obtain ⟨a1, a2⟩ := leftR_sim room bs r ok hr e ld
  obtain ⟨b1, b2⟩ := leftR_sim found (found.map (pairV (q := q))) r okf hr (by rw [List.map_map]; rfl) fun b hb => ld b (pc.mem_iff.mp hb)
  have l1 := a1 _ List.mem_cons_self
  have l2 := b1 _ List.mem_cons_self
  refine toV_inj (q := q) (by rw [l1.1, l2.1]) l2.2 l1.2 ?_
  have pw : (found.map (pairV (q := q))).Pairwise (fun a c => a.2 c.1 = 0 ∧ c.2 a.1 = 0) := perm_pw (R := fun a c => a.2 c.1 = 0 ∧ c.2 a.1 = 0) (fun a b z => ⟨z.2, z.1⟩) pc (pf.inc.imp_of_mem fun {a c} ha hc hlt => ⟨pf.off a ha c hc (by omega), pf.off c hc a ha (by omega)⟩)
  rw [a2, b2, pf.leftF, leftF_eq _ _ (pw.imp fun z => z.1)]
  funext i
  show toV r i - red (found.map (pairV (q := q))) (toV r) i = toV r i - red bs (toV r) i
  rw [red_perm pc]
theorem desc (hF : Fld (q : Int)) {n : Nat} {room : List (List Int)} (h : IsPF q n room) : room.Pairwise fun a b => codeR q b < codeR q a := by
  obtain ⟨ok, bs, pf, e⟩ := h
  have ld : ∀ b ∈ bs, Lead b.2 b.1 := fun b hb => pf.leads (one_ne (q2 hF)) hb
  have fe := firsts_eq room bs ok e ld
  have : (room.map fpR).Pairwise (· < ·) := by
    rw [fe, List.pairwise_map]
    exact pf.inc
  rw [List.pairwise_map] at this
  exact this.imp_of_mem fun {a b} ha hb hlt => code_lead q_pos b a (by rw [(ok a ha).1, (ok b hb).1]) (ok b hb).2 (ok a ha).2 hlt
end
section
variable {p : Int} {n : Nat} {room found : List (List Int)} {r : List Int}
theorem PFR.left_any (hF : Fld p) (h : PFR p n room) (pm : found.Perm room) (hr : RowsOk p n [r]) : leftR p found r = leftR p room r := by
  obtain ⟨q, rfl, z, hF⟩ := to_q hF
  exact OC.left_any hF ((isPF_iff hF).mpr h) pm hr
theorem PFR.desc (hF : Fld p) (h : PFR p n room) : room.Pairwise fun a b => codeR p b < codeR p a := by
  obtain ⟨q, rfl, z, hF⟩ := to_q hF
  exact OC.desc hF ((isPF_iff hF).mpr h)
theorem PFR.more_perm (hF : Fld p) (h : PFR p n room) (hr : RowsOk p n [r]) (hne : fpR (leftR p room r) < n) : (ownR p (leftR p room r) (fpR (leftR p room r)) :: room.map fun b => lessR p b (ownR p (leftR p room r) (fpR (leftR p room r))) (fpR (leftR p room r))).Perm (plainR p n (room ++ [r])) := by
  generalize hL : (ownR p (leftR p room r) (fpR (leftR p room r)) :: room.map fun b => lessR p b (ownR p (leftR p room r) (fpR (leftR p room r))) (fpR (leftR p room r))) = L
  have pm := List.mergeSort_perm L (fun a b => decide (codeR p b ≤ codeR p a))
  have pw := List.pairwise_mergeSort (le := fun a b => decide (codeR p b ≤ codeR p a)) (fun a b c h1 h2 => decide_eq_true (by have := of_decide_eq_true h1; have := of_decide_eq_true h2; omega)) (fun a b => by
    by_cases hc : codeR p b ≤ codeR p a
    · rw [decide_eq_true hc]; rfl
    · rw [decide_eq_false hc, decide_eq_true (show codeR p a ≤ codeR p b by omega)]; rfl) L
  have e := PFR.widen hF h hr hne (rs := L.mergeSort fun a b => decide (codeR p b ≤ codeR p a)) (by rw [hL]; exact pm) (pw.imp fun z => of_decide_eq_true z)
  rw [← e]
  exact pm.symm
theorem strict_one {f : List Int → Int} : ∀ {l : List (List Int)}, l.Pairwise (fun a b => f b < f a) → ∀ a ∈ l, ∀ b ∈ l, f a = f b → a = b
  | [], _, a, ha, _, _, _ => (nomatch ha)
  | c :: l, h, a, ha, b, hb, e => by
    rw [List.pairwise_cons] at h
    rcases List.mem_cons.mp ha with ea | ha'
    · rcases List.mem_cons.mp hb with eb | hb'
      · rw [ea, eb]
      · have := h.1 b hb'
        rw [← ea] at this
        omega
    · rcases List.mem_cons.mp hb with eb | hb'
      · have := h.1 a ha'
        rw [← eb] at this
        omega
      · exact strict_one h.2 a ha' b hb' e
theorem PFR.desc_one (hF : Fld p) (h : PFR p n room) (pm : found.Perm room) (pw : found.Pairwise fun a b => codeR p b ≤ codeR p a) : found = room := by
  have d := PFR.desc hF h
  exact pm.eq_of_pairwise (le := fun a b => codeR p b ≤ codeR p a) (fun a b ha hb h1 h2 => strict_one d a (pm.mem_iff.mp ha) b hb (by omega)) pw (d.imp fun z => Int.le_of_lt z)
/-- one row more, the plain rows in any order -/
theorem PFR.step (hF : Fld p) (h : PFR p n room) (pm : found.Perm room) (hr : RowsOk p n [r]) (hne : fpR (leftR p room r) < n) : ((found.map fun b => lessR p b (ownR p (leftR p room r) (fpR (leftR p room r))) (fpR (leftR p room r))) ++ [ownR p (leftR p room r) (fpR (leftR p room r))]).Perm (plainR p n (room ++ [r])) := by
  refine List.Perm.trans ?_ (PFR.more_perm hF h hr hne)
  exact (List.perm_append_comm).trans ((List.Perm.cons _ (pm.map _)))
theorem own_first (hF : Fld p) {y : List Int} (ok : y.length = n ∧ ∀ x ∈ y, 0 ≤ x ∧ x < p) (hlt : fpR y < n) : fpR (ownR p y (fpR y)) = fpR y := by
  have h2 := hF.1
  have b := getD_lt (by omega) ok.2 (fpR y)
  have nz : y.getD (fpR y) 0 ≠ 0 := fpR_at (by rw [ok.1]; exact hlt)
  have hc := ctr_ok hF (show 1 ≤ y.getD (fpR y) 0 by omega) b.2
  have gd : ∀ i, i < n → (ownR p y (fpR y)).getD i 0 = ctr p (y.getD (fpR y) 0) * y.getD i 0 % p := fun i hi => by
    unfold ownR
    rw [gd_lt (by rw [List.length_map, ok.1]; exact hi), List.getElem_map, gd_lt (r := y) (i := i) (by rw [ok.1]; exact hi)]
  refine fpR_of ?_ fun i hi => ?_
  · rw [gd _ hlt, Int.mul_comm, hc.2.2]
    decide
  · rw [gd _ (by omega), fpR_low hi, Int.mul_zero, Int.zero_emod]
end
end OC
set_option Elab.async false
set_option linter.all false
set_option maxRecDepth 100000
set_option maxHeartbeats 4000000
/-! the drawn numbers of the laws over stands: a list of cells, a count, a list of rests -/
namespace OC
open PySem PySem.Spec PyProof.Rows L2
structure Drw (H : Hp) (d c e : Addr) (t : Int) : Prop where
  hd : H d = some (.lst [.ref c, .int t, .ref e])
  hc : ∃ cells rests : List Int, H c = some (.lst (cells.map V.int)) ∧ H e = some (.lst (rests.map V.int)) ∧ cells.length = rests.length ∧ 0 < cells.length ∧ cells.length ≤ 63 ∧ ∀ x ∈ rests, 0 ≤ x
  cd : c ≠ d
  ed : e ≠ d
  ce : c ≠ e
  t0 : 0 ≤ t
section
variable {H H' : Hp} {d c e : Addr} {t : Int}
theorem Drw.same (D : Drw H d c e t) (s : Same H H') : Drw H' d c e t := by
  obtain ⟨hd, ⟨cells, rests, h1, h2, h3⟩, a, b, f, t0⟩ := D
  exact ⟨s _ _ hd, ⟨cells, rests, s _ _ h1, s _ _ h2, h3⟩, a, b, f, t0⟩
/-- one of the three lists -/
def Bd3 (d c e : Addr) : Addr → Prop := fun a => a = d ∨ a = c ∨ a = e
theorem Drw.fresh (D : Drw H d c e t) {p : Addr} (n : H p = none) : ¬ Bd3 d c e p := by
  obtain ⟨hd, ⟨cells, rests, h1, h2, h3⟩, _⟩ := D
  rintro (z | z | z)
  · subst z; rw [hd] at n; cases n
  · subst z; rw [h1] at n; cases n
  · subst z; rw [h2] at n; cases n
theorem Drw.mut (D : Drw H d c e t) {B : Addr} {o : HO} (b : ¬ Bd3 d c e B) : Drw (upd H B o) d c e t := by
  obtain ⟨hd, ⟨cells, rests, h1, h2, h3⟩, x, y, z, t0⟩ := D
  exact ⟨by rw [upd_ne (fun z => b (.inl z.symm))]; exact hd, ⟨cells, rests, by rw [upd_ne (fun z => b (.inr (.inl z.symm)))]; exact h1, by rw [upd_ne (fun z => b (.inr (.inr z.symm)))]; exact h2, h3⟩, x, y, z, t0⟩
theorem Drw.tup {K : PySem.W.Frag} (D : Drw H d c e t) (k : Kept d e H H') {a : Addr} {xs : List V} (h : SqT K H a xs) : SqT K H' a xs := by
  obtain ⟨hd, ⟨cells, rests, h1, h2, h3⟩, _⟩ := D
  rcases h with (h | ⟨o, h⟩) | h
  · exact .inl (.inl (k _ _ h (fun z => by subst z; rw [hd] at h; cases h) (fun z => by subst z; rw [h2] at h; cases h)))
  · exact .inl (.inr ⟨o, k _ _ h (fun z => by subst z; rw [hd] at h; cases h) (fun z => by subst z; rw [h2] at h; cases h)⟩)
  · exact .inr h
theorem Drw.tk (D : Drw H d c e t) (k : Kept d e H H') : Tk H H' := fun _ _ _ h => D.tup k h
theorem Drw.rows {K : PySem.W.Frag} (D : Drw H d c e t) (k : Kept d e H H') {a : Addr} {rs : List (List Int)} (h : RowsAt K H a rs) : RowsAt K H' a rs := by
  obtain ⟨ws, h1, h2⟩ := h
  exact ⟨ws, D.tup k h1, dpAll_tk (D.tk k) _ _ (noL_rows rs) h2⟩
theorem Drw.lst (k : Kept d e H H') {a : Addr} {o : HO} (b : ¬ Bd3 d c e a) (h : H a = some o) : H' a = some o := k _ _ h (fun z => b (.inl z)) (fun z => b (.inr (.inr z)))
end
end OC
set_option Elab.async false
set_option linter.all false
set_option maxRecDepth 100000
set_option maxHeartbeats 4000000
namespace OC
open PySem PySem.Spec PyProof.Rows L2
/-- a name: one to eight small letters -/
def NameOk (s : Str) : Prop := 1 ≤ s.length ∧ s.length ≤ 8 ∧ ∀ c ∈ s.cps.toList, 97 ≤ c ∧ c ≤ 122
def nameL (st : List Nat) (k c : Nat) : List Nat := st.take k ++ ([c] ++ st.drop k)
theorem nameL_inj {st : List Nat} {k c c' : Nat} (h : nameL st k c = nameL st k c') : c = c' := by
  unfold nameL at h
  have := List.append_cancel_left h
  exact (List.cons.inj this).1
theorem nameL_len (st : List Nat) (k c : Nat) : (nameL st k c).length = st.length + 1 := by
  unfold nameL
  rw [List.length_append, List.length_append, List.length_take, List.length_drop]
  simp only [List.length_cons, List.length_nil]
  omega
theorem nameL_ok {st : List Nat} {k c : Nat} (h : ∀ x ∈ st, 97 ≤ x ∧ x ≤ 122) (hl : st.length ≤ 7) (hc : 97 ≤ c ∧ c ≤ 122) : NameOk (SX.S (nameL st k c)) := by
  have e := SX.S_len (nameL st k c)
  rw [nameL_len] at e
  refine ⟨by omega, by omega, fun x hx => ?_⟩
  have hx : x ∈ nameL st k c := hx
  unfold nameL at hx
  rcases List.mem_append.mp hx with hx | hx
  · exact h x (List.mem_of_mem_take hx)
  · rcases List.mem_append.mp hx with hx | hx
    · rw [List.mem_singleton.mp hx]
      exact hc
    · exact h x (List.mem_of_mem_drop hx)
theorem step_inj {f s : Int} {i j : Nat} (hs : s = 1 ∨ s = 3 ∨ s = 5 ∨ s = 7 ∨ s = 9 ∨ s = 11 ∨ s = 15 ∨ s = 17) (hi : i < 26) (hj : j < 26) (h : (f + s * i) % 26 = (f + s * j) % 26) : i = j := by
  rcases hs with rfl | rfl | rfl | rfl | rfl | rfl | rfl | rfl
  all_goals omega
def lettersS : Str := "abcdefghijklmnopqrstuvwxyz"
theorem letters_at {i : Int} (h0 : 0 ≤ i) (h1 : i < 26) : atI lettersS.cps.toList i = some (97 + i.toNat) := by
  have a : ∀ k : Fin 26, atI lettersS.cps.toList (k.val : Int) = some (97 + k.val) := by decide +kernel
  have := a ⟨i.toNat, by omega⟩
  rw [show ((⟨i.toNat, by omega⟩ : Fin 26).val : Int) = i from Int.toNat_of_nonneg h0] at this
  exact this
theorem join_ones : ∀ cs : List Nat, TL.joinL [] (cs.map fun c => [c]) = cs := by
  intro cs
  induction cs with
  | nil => rfl
  | cons c cs ih =>
    cases cs with
    | nil => rfl
    | cons d cs =>
      have : TL.joinL [] ((c :: d :: cs).map fun c => [c]) = [c] ++ ([] ++ TL.joinL [] ((d :: cs).map fun c => [c])) := rfl
      rw [this, ih]
      rfl
theorem ones_sum : ∀ cs : List Nat, ((cs.map fun c => SX.S [c]).map (·.length)).sum = cs.length := by
  intro cs
  induction cs with
  | nil => rfl
  | cons c cs ih =>
    rw [List.map_cons, List.map_cons, List.sum_cons, ih, SX.S_len, List.length_cons]
    simp only [List.length_cons, List.length_nil]
    omega
theorem join_cs (cs : List Nat) : Txt.join (Str.ofString "") (cs.map fun c => SX.S [c]) = SX.S cs := by
  have e := SX.join_S [] (cs.map fun c => [c])
  rw [List.map_map, join_ones] at e
  exact e
def nameAt (st : List Nat) (cut f s : Int) (k : Nat) : Str := SX.S (nameL st cut.toNat (97 + ((f + s * k) % 26).toNat))
theorem names_nodup {st : List Nat} {cut f s : Int} (hs : s = 1 ∨ s = 3 ∨ s = 5 ∨ s = 7 ∨ s = 9 ∨ s = 11 ∨ s = 15 ∨ s = 17) {m : Nat} (hm : m ≤ 26) : ((List.range m).map (nameAt st cut f s)).Nodup := by
  refine List.pairwise_map.mpr ((List.nodup_range (n := m)).imp_of_mem fun {i j} hi hj hne h => hne ?_)
  have hi := List.mem_range.mp hi
  have hj := List.mem_range.mp hj
  have h := nameL_inj (SX.S_inj h)
  refine step_inj (f := f) hs (by omega) (by omega) ?_
  have := Int.emod_nonneg (f + s * i) (b := 26) (by decide)
  have := Int.emod_nonneg (f + s * j) (b := 26) (by decide)
  omega
theorem nameAt_ok {st : List Nat} {cut f s : Int} {k : Nat} (h : ∀ x ∈ st, 97 ≤ x ∧ x ≤ 122) (hl : st.length ≤ 7) : NameOk (nameAt st cut f s k) := by
  refine nameL_ok h hl ?_
  have := Int.emod_nonneg (f + s * k) (b := 26) (by decide)
  have := Int.emod_lt_of_pos (f + s * k) (b := 26) (by decide)
  omega
end OC
set_option Elab.async false
set_option linter.all false
set_option maxRecDepth 100000
set_option maxHeartbeats 4000000
namespace OC
open PySem PySem.Spec PyProof.Rows L2
/-- a statement that is never reached -/
theorem ps_dead {X : Cx} {st : Stmt} : PS X st (fun _ _ _ => False) := ⟨fun _ _ _ _ _ _ h => h.elim⟩
def handD (h : Str × List (List Int)) : PyData := .tuple [.str h.1, .tuple (h.2.map rowD)]
/-- a stand as data -/
def standD (p : Int) (n : Nat) (kn : List (List Int)) (hs : List (Str × List (List Int))) : PyData := .tuple [.int p, .int n, .tuple (kn.map rowD), .tuple (hs.map handD)]
theorem noL_hands : ∀ hs : List (Str × List (List Int)), noLAll (hs.map handD) = true
  | [] => rfl
  | h :: hs => by
    have a : noL (handD h) = true := by
      unfold handD
      simp only [noL, noLAll, noL_rows, Bool.and_true]
    rw [List.map_cons]
    simp only [noLAll, a, noL_hands hs, Bool.and_true]
/-- a comprehension of drawn rows -/
theorem lc_rows3 {K : PySem.W.Frag} {d c : Addr} {t p : Int} {n m : Nat} {σ : L2.St} {H : Hp} {Qd : Addr → Hp → Prop} {i : Nat} {sl : List Nat} {te : TE} (D0 : Deck H d c t) (hm : m ≤ 100) (hw : ∀ x : Option V, wipe ((wipe σ sl).set i x) sl = wipe σ sl)
    (hte : ∀ (x : V) (k : Nat) (t' : Int) (H' : Hp) (Q' : VK), Deck H' d c t' → t' ≤ t + 20 * k → k < m → (∀ H'' t'' a r, Kept d c H' H'' → Deck H'' d c t'' → t'' ≤ t' + 20 → H'' a = some (.tup (r.map V.int)) → RowsOk p n [r] → Q' (.ref a) H'') → te ((wipe σ sl).set i (some x)) H' Q')
    (hd : ∀ (D : Addr) (H' : Hp) (t' : Int) (ws : List V) (rs : List (List Int)), Kept d c H H' → Deck H' d c t' → t' ≤ t + 20 * m → H D = none → H' D = some (.lst ws) → DpAll K H' ws (rs.map rowD) → rs.length = m → RowsOk p n rs → Qd D H') :
    LcGoal (Itr 0 m) (gName i) tYes te sl σ H Qd := by
  intro D nD
  have bD := D0.fresh nD
  refine lc_range (lo := 0) (n := m) (fun k H' => Kept d c H H' ∧ ∃ (t' : Int) (ws : List V) (rs : List (List Int)), Deck H' d c t' ∧ t' ≤ t + 20 * k ∧ H' D = some (.lst ws) ∧ DpAll K H' ws (rs.map rowD) ∧ rs.length = k ∧ RowsOk p n rs) ⟨Kept.of (same_upd nD), t, [], [], D0.same (same_upd nD), by omega, upd_same, .nil, rfl, fun x hx => nomatch hx⟩ (fun k H' hk hW => ?_) (fun H' hW => ?_)
  · obtain ⟨k', t', ws, rs, D', ht', eB, dp, ln, ro⟩ := hW
    refine ⟨hw _, hte _ k t' H' _ D' ht' hk fun H1 t1 a r k1 D1 ht1 ea okr => ?_⟩
    have eB1 := k1 _ _ eB (fun z => bD (.inl z)) (fun z => bD (.inr z))
    have na : D ≠ a := fun z => by subst z; rw [eB1] at ea; cases ea
    have lw := dpAll_len dp
    rw [List.length_map] at lw
    have tk : Tk H1 (upd H1 D (.lst (ws ++ [.ref a]))) := (Tk.refl _).mut eB1
    refine ⟨ws, eB1, small1000 (by omega), (k'.trans k1).mut nD, t1, ws ++ [.ref a], rs ++ [r], D1.mut bD, by omega, upd_same, ?_, by rw [List.length_append, ln]; rfl, fun y hy => ?_⟩
    · rw [List.map_append]
      refine dpAll_append (dpAll_tk tk _ _ (noL_rows rs) (dpAll_tk (Tk.kept D' k1) _ _ (noL_rows rs) dp)) (.cons (.tup (.inl (.inl ?_)) (dpAll_ints r)) .nil)
      rw [upd_ne (Ne.symm na)]
      exact ea
    · rcases List.mem_append.mp hy with h | h
      · exact ro y h
      · rw [List.mem_singleton.mp h]
        exact okr r List.mem_cons_self
  · obtain ⟨k', t', ws, rs, D', ht', eB, dp, ln, ro⟩ := hW
    exact hd D H' t' ws rs k' D' ht' nD eB dp ln ro
theorem dp_stand {K : PySem.W.Frag} {H : Hp} {v : V} {p : Int} {n : Nat} {kn : List (List Int)} {hs : List (Str × List (List Int))} (h : Dp K H v (standD p n kn hs)) :
    ∃ (a k g : Addr) (wg : List V), v = .ref a ∧ SqT K H a [.int p, .int n, .ref k, .ref g] ∧ RowsAt K H k kn ∧ SqT K H g wg ∧ DpAll K H wg (hs.map handD) := by
  unfold standD at h
  cases h with
  | tup h1 h2 =>
    cases h2 with
    | cons a1 h2 =>
      cases a1
      cases h2 with
      | cons a2 h2 =>
        cases a2
        cases h2 with
        | cons a3 h2 =>
          cases h2 with
          | cons a4 h2 =>
            cases h2
            cases a3 with
            | tup q1 q2 =>
              cases a4 with
              | tup q3 q4 => exact ⟨_, _, _, _, rfl, h1, ⟨_, q1, q2⟩, q3, q4⟩
theorem dp_hand {K : PySem.W.Frag} {H : Hp} {v : V} {h : Str × List (List Int)} (d : Dp K H v (handD h)) : ∃ (b r : Addr), v = .ref b ∧ SqT K H b [.str h.1, .ref r] ∧ RowsAt K H r h.2 := by
  unfold handD at d
  cases d with
  | tup h1 h2 =>
    cases h2 with
    | cons a1 h2 =>
      cases a1
      cases h2 with
      | cons a2 h2 =>
        cases h2
        cases a2 with
        | tup q1 q2 => exact ⟨_, _, rfl, h1, ⟨_, q1, q2⟩⟩
theorem dpAll_hand {K : PySem.W.Frag} {H : Hp} {wg : List V} {hs : List (Str × List (List Int))} {i : Nat} {v : V} (h : DpAll K H wg (hs.map handD)) (e : wg[i]? = some v) : ∃ (b r : Addr) (x : Str × List (List Int)), v = .ref b ∧ hs[i]? = some x ∧ x ∈ hs ∧ SqT K H b [.str x.1, .ref r] ∧ RowsAt K H r x.2 := by
  obtain ⟨d, g, _, dp⟩ := dpAll_get h e
  rw [List.getElem?_map] at g
  obtain ⟨x, hx, rfl⟩ := Option.map_eq_some_iff.mp g
  obtain ⟨b, r, e1, e2, e3⟩ := dp_hand dp
  exact ⟨b, r, x, e1, hx, List.mem_of_getElem? hx, e2, e3⟩
/-- the rows of those hands whose names are asked for -/
def selR (ns : List Str) (hs : List (Str × List (List Int))) : List (List Int) := hs.flatMap fun h => if h.1 ∈ ns then h.2 else []
theorem sel_take {ns : List Str} {hs : List (Str × List (List Int))} {i : Nat} {x : Str × List (List Int)} (h : hs[i]? = some x) : selR ns (hs.take (i + 1)) = selR ns (hs.take i) ++ (if x.1 ∈ ns then x.2 else []) := by
  unfold selR
  rw [List.take_add_one, h, List.flatMap_append]
  congr 1
  simp only [Option.toList, List.flatMap_cons, List.flatMap_nil, List.append_nil]
theorem sel_ok {p : Int} {n : Nat} {ns : List Str} {hs : List (Str × List (List Int))} (h : ∀ x ∈ hs, RowsOk p n x.2) : RowsOk p n (selR ns hs) := by
  intro r hr
  obtain ⟨x, hx, hr⟩ := List.mem_flatMap.mp hr
  by_cases hn : x.1 ∈ ns
  · rw [if_pos hn] at hr
    exact h x hx r hr
  · rw [if_neg hn] at hr
    cases hr
theorem sel_len {ns : List Str} {B : Nat} : ∀ {hs : List (Str × List (List Int))}, (∀ x ∈ hs, x.2.length ≤ B) → (selR ns hs).length ≤ B * hs.length
  | [], _ => Nat.zero_le _
  | x :: hs, h => by
    have a := sel_len (ns := ns) (hs := hs) (fun y hy => h y (List.mem_cons_of_mem _ hy))
    have b := h x List.mem_cons_self
    have e : selR ns (x :: hs) = (if x.1 ∈ ns then x.2 else []) ++ selR ns hs := rfl
    rw [e, List.length_append, List.length_cons, Nat.mul_add, Nat.mul_one]
    by_cases hn : x.1 ∈ ns
    · rw [if_pos hn]
      omega
    · rw [if_neg hn, List.length_nil]
      omega
theorem flat_strs : ∀ ns : List Str, (ns.map V.str).all flatV = true
  | [] => rfl
  | x :: ns => by
    rw [List.map_cons, List.all_cons, flat_strs ns]
    rfl
theorem in_strs (x : Str) (ns : List Str) : inV (.str x) (ns.map V.str) = decide (x ∈ ns) := by
  unfold inV
  rw [List.any_map]
  by_cases h : x ∈ ns
  · rw [decide_eq_true h]
    refine List.any_eq_true.mpr ⟨x, h, ?_⟩
    show (x == x) = true
    exact beq_self_eq_true x
  · rw [decide_eq_false h]
    refine List.any_eq_false.mpr fun y hy e => h ?_
    have e : (y == x) = true := e
    rw [← eq_of_beq e]
    exact hy
end OC
set_option Elab.async false
set_option linter.all false
set_option maxRecDepth 100000
set_option maxHeartbeats 4000000
namespace OC
open PySem PySem.Spec PyProof.Rows L2
section
variable {prog : Program} {w : World} {A : Around} {E : Value → Shared → Prop} {s : Shared} {l : Addr} {its : List Value} {ns : List Int} {Q : Value → Shared → Prop}
/-- max of a tuple of ints, in the model -/
theorem max_tupI (hh : A.handled = none) (hl : s.heap.IsTuple l its.toArray) (hi : IntsAre its ns) (hne : 0 < ns.length)
    (h : ∀ h' tk M t', (∀ b o, s.heap.get? b = some o → h'.get? b = some o) → M ∈ ns → (∀ a, a ∈ ns → a ≤ M) → Q (.int M t') { s with heap := h', toks := tk }) : wpAny (model prog w) A (call (.builtin "max") [.ref l]) Q E s := by
  obtain ⟨xs, e⟩ := hi.allInts.items
  have hn : numsOf (intItems xs).toList = ns := by rw [← e]; exact hi.numsOf
  rw [nums_intItems] at hn
  subst hn
  rw [e] at hl
  have hsz : 0 < xs.size := by simpa using hne
  have hlt : l < s.heap.objs.size := by obtain ⟨_, e, _⟩ := hl; exact Heap.lt_size e
  refine call_max_walk (wpAny_pyIter_tuple hl ?_)
  refine ⟨_, [_, l], [_], _, _, _, _, rfl, Walks.tuple (A := A.in1) hh _ l (Nat.ne_of_lt hlt) (intItems xs), ⟨⟨_, Heap.get?_push_size _ rfl, rfl, rfl⟩, hl.push _⟩, fun c hc => ?_, by simpa [intItems] using hsz, CmpOf.ints_gt (numAt xs) (fun _ _ => intItems_at), fun v h' tk hP hk => ?_⟩
  · show c < (s.heap.push _).objs.size
    rw [Heap.size_push]
    rcases List.mem_cons.mp hc with rfl | hc
    · exact Nat.lt_succ_self _
    · rcases List.mem_cons.mp hc with rfl | hc
      · exact Nat.lt_succ_of_lt hlt
      · cases hc
  · have hold : ∀ c o, s.heap.get? c = some o → h'.get? c = some o := fun c o e => by
      refine hk c o (fun hm => ?_) (Heap.get?_push_of_some _ e)
      rcases List.mem_cons.mp hm with e1 | hm
      · exact absurd (e1 ▸ Heap.lt_size e) (Nat.lt_irrefl _)
      · cases hm
    obtain ⟨t, rfl⟩ := intItems_at hP
    obtain ⟨h1, h2⟩ := argBest_gt (numAt xs) (xs.size - 1)
    have ez : (intItems xs).size - 1 = xs.size - 1 := by simp [intItems]
    rw [ez]
    refine h h' tk _ t hold ?_ fun a ha => ?_
    · rw [numAt_eq]; exact PySem.getD_mem (by rw [List.length_map, Array.length_toList]; omega)
    · obtain ⟨j, hj, rfl⟩ := mem_getD ha
      rw [List.length_map, Array.length_toList] at hj
      rw [← numAt_eq]; exact h2 j (by omega)
end
def rMaxI (K : PySem.W.Frag) : List V → Hp → VK → Prop := fun vs H Q => ∃ (a : Addr) (ns : List Int), vs = [V.ref a] ∧ SqT K H a (ns.map V.int) ∧ 0 < ns.length ∧ ∀ m, m ∈ ns → (∀ y, y ∈ ns → y ≤ m) → Q (.int m) H
theorem cr_maxI {X : Cx} (hc : X.calm = true) : CallR X (.builtin "max") (rMaxI X.K) := by
  intro pins s σ H vs us Q I r h
  obtain ⟨a, ns, rfl, hs, hne, q⟩ := h
  obtain ⟨its, rv, hl, _⟩ := I.tuple hs
  rw [Vals.ref1 r]
  exact max_tupI (I.ok.hd hc) hl rv.ints hne fun h' tk m t' hk h1 h2 => ⟨.int _, H, I.kept hk, ⟨_, rfl⟩, q m h1 h2⟩
end OC
set_option Elab.async false
set_option linter.all false
set_option maxRecDepth 100000
set_option maxHeartbeats 4000000
namespace OC
open PySem PySem.Spec PyProof.Rows L2
theorem zero_iff {n : Nat} {l : List Int} (h : l.length = n) : (∀ y ∈ l, y = 0) ↔ l = List.replicate n 0 := by
  rw [List.eq_replicate_iff]
  exact ⟨fun z => ⟨h, z⟩, fun z => z.2⟩
theorem PFR.rows {p : Int} {n : Nat} {room : List (List Int)} (h : PFR p n room) : RowsOk p n room := fun r hr => h.1 r hr
/-- what is left of a row is nothing if the room holds it -/
theorem left_zero {p : Int} (hF : Fld p) {n : Nat} {room : List (List Int)} (h : PFR p n room) {r : List Int} (hr : RowsOk p n [r]) (hl : (leftR p room r).length = n) : (∀ y ∈ leftR p room r, y = 0) ↔ InR p room r := by
  rw [zero_iff hl, ← hasR_in hF h.rows hr, ← left_iff hF h hr]
  exact ⟨fun e => decide_eq_true e, fun e => of_decide_eq_true e⟩
end OC
set_option Elab.async false
set_option linter.all false
set_option maxRecDepth 100000
set_option maxHeartbeats 4000000
set_option Elab.async false
set_option linter.all false
set_option maxRecDepth 100000
set_option maxHeartbeats 4000000
namespace OC
open PySem PySem.Spec PyProof.Rows L2
def roomD (room : List (List Int)) : PyData := .tuple (room.map rowD)
theorem noL_rooms : ∀ rms : List (List (List Int)), noLAll (rms.map roomD) = true
  | [] => rfl
  | r :: rms => by
    rw [List.map_cons]
    simp only [noLAll, roomD, noL, noL_rows, Bool.true_and]
    exact noL_rooms rms
/-- a drawn stand -/
structure Stand5 (p : Int) (n : Nat) (kn : List (List Int)) (hs : List (Str × List (List Int))) : Prop where
  fld : Fld p
  p1 : p ≤ 1000
  n1 : 1 ≤ n
  n8 : n ≤ 8
  pk : PFR p n kn
  ph : ∀ h ∈ hs, PFR p n h.2
  inn : ∀ h ∈ hs, ∀ r ∈ kn, InR p h.2 r
  few : 2 ≤ hs.length
  many : hs.length ≤ 9
  srt : sortedS (hs.map Prod.fst) = true
  nd : (hs.map Prod.fst).Nodup
  nm : ∀ x ∈ hs.map Prod.fst, NameOk x
end OC
set_option Elab.async false
set_option linter.all false
set_option maxRecDepth 100000
set_option maxHeartbeats 4000000
/-! what repr asks, with bounds; comprehensions of things with old lists in them -/
namespace OC
open PySem PySem.Spec PyProof.Rows L2
structure FitZ (B k : Nat) (d : PyData) : Prop where
  len : d.shown.length ≤ B
  sh : d.showable = true
  dp : d.depth ≤ k
theorem FitZ.mono {B B' k k' : Nat} {d : PyData} (h : FitZ B k d) (hB : B ≤ B') (hk : k ≤ k') : FitZ B' k' d := ⟨Nat.le_trans h.len hB, h.sh, Nat.le_trans h.dp hk⟩
theorem Drw.some {d c e : Addr} {t : Int} {H : Hp} (D : Drw H d c e t) {a : Addr} (b : Bd3 d c e a) : H a ≠ none := by
  obtain ⟨cells, rests, h1, h2, _⟩ := D.hc
  rcases b with z | z | z
  · subst z; rw [D.hd]; exact fun z => nomatch z
  · subst z; rw [h1]; exact fun z => nomatch z
  · subst z; rw [h2]; exact fun z => nomatch z
end OC
set_option Elab.async false
set_option linter.all false
set_option maxRecDepth 100000
set_option maxHeartbeats 2000000
/-! errors of classes of one's own, made without an argument; defs that may raise, by name -/
namespace OC
open PySem PySem.Spec PyProof.Rows L2
/-- as Ok, for a def that may raise -/
structure OkX (P : Program) (w : World) (K : PySem.W.Frag) (mg : Str → Option Value) (base : Heap) (k : Nat) (x : Str) (ps : List Str) (sp : Sp) : Prop where
  ex : ∃ (f : Addr) (fd : FuncData), FnOk P w K mg base (L2.CX P w) k f fd ps sp ∧ mg x = some (.ref f) ∧ PySem.W.keepIn K (.ref f) = true ∧ Binds K fd ps []
section
variable {P : Program} {w : World} {K : PySem.W.Frag} {mg : Str → Option Value} {base : Heap}
theorem OkX.mono {x : Str} {ps : List Str} {j k : Nat} {sp : Sp} (O : OkX P w K mg base j x ps sp) (h : j ≤ k) : OkX P w K mg base k x ps sp := by
  obtain ⟨f, fd, F, r⟩ := O.ex
  exact ⟨f, fd, F.mono h, r⟩
end
end OC
set_option Elab.async false
set_option linter.all false
set_option maxRecDepth 100000
set_option maxHeartbeats 2000000
/-! zip of a list and a tuple -/
namespace OC
open PySem PySem.Spec PyProof.Rows L2
/-- the list at a and the tuple at b as they stand at each turn, the items in new pairs -/
def ItzM (K : PySem.W.Frag) (a b : Addr) : It :=
  ⟨fun i H => ∃ (xs ys : List V) (x y : V), SqL K H a xs ∧ SqT K H b ys ∧ xs[i]? = some x ∧ ys[i]? = some y,
    fun i H v H' => ∃ T x y, v = .ref T ∧ H T = none ∧ H' = upd H T (.tup [x, y]) ∧ (∀ xs, SqL K H a xs → xs[i]? = some x) ∧ ∀ ys, SqT K H b ys → ys[i]? = some y,
    fun i H => ∃ xs ys : List V, SqL K H a xs ∧ SqT K H b ys ∧ i ≤ xs.length ∧ i ≤ ys.length ∧ (i = xs.length ∨ i = ys.length)⟩
theorem sep_of {z TI TO i1 i2 l1 l2 : Addr} (D : ZipApart z TI TO i1 i2 l1 l2) : ZipSep2 z TI TO i1 i2 [i1, l1] [i2, l2] where
  TIz := D.TIz
  TOz := D.TOz
  TITO := D.TITO
  TIi1 := D.TIi1
  mem1 := by simp
  zf1 := by simp; exact ⟨Ne.symm D.i1z, Ne.symm D.l1z⟩
  Tf1 := by simp; exact ⟨D.TOi1, Ne.symm D.l1TO⟩
  TIi2 := D.TIi2
  mem2 := by simp
  zf2 := by simp; exact ⟨Ne.symm D.i2z, Ne.symm D.l2z⟩
  Tf2 := by simp; exact ⟨D.TOi2, Ne.symm D.l2TO⟩
  sep1_2 := by simp; exact ⟨D.i12, Ne.symm D.l2i1⟩
  sep2_1 := by simp; exact ⟨Ne.symm D.i12, Ne.symm D.l1i2⟩
theorem turn_zipM {P : Program} {w : World} {K : PySem.W.Frag} {elts : List Expr} {kk : Nat} {tpos : Pos} {a b z TI TO i1 i2 : Addr} (D : ZipApart z TI TO i1 i2 a b) :
    Turn P w K (.Tuple elts kk tpos) (ItzM K a b) [z, TI, TO, i1, i2] z (fun i h => IsZip h z TI TO .none ∧ IsTupOf2 h TI (.ref i1) (.ref i2) ∧ (∃ x y, IsTupOf2 h TO x y) ∧ h.IsListIter i1 a i ∧ h.IsTupleIter i2 b i) where
  mem := by simp
  obj := fun i h st c hc => by
    obtain ⟨hz, hTI, ⟨x, y, hTO⟩, ⟨o1, e1, _, d1⟩, ⟨o2, e2, _, d2⟩⟩ := st
    have e' : c = z ∨ c = TI ∨ c = TO ∨ c = i1 ∨ c = i2 := by simpa using hc
    rcases e' with q | q | q | q | q
    · rw [q]; exact ⟨_, hz, fun v q => nomatch q⟩
    · rw [q]; exact ⟨_, hTI, fun v q => nomatch q⟩
    · rw [q]; exact ⟨_, hTO, fun v q => nomatch q⟩
    · rw [q]; exact ⟨o1, e1, fun v q => by rw [d1] at q; cases q⟩
    · rw [q]; exact ⟨o2, e2, fun v q => by rw [d2] at q; cases q⟩
  keep := fun i h h' st k => by
    obtain ⟨hz, hTI, ⟨x, y, hTO⟩, h1, h2⟩ := st
    exact ⟨k z (by simp) _ hz, k TI (by simp) _ hTI, ⟨x, y, k TO (by simp) _ hTO⟩, h1.at fun o q => k i1 (by simp) o q, h2.at fun o q => k i2 (by simp) o q⟩
  item := by
    intro X hP hw hK hc i pins s σ H E I hf st hg
    subst hP hw hK
    obtain ⟨hz, hTI, ⟨x0, y0, hTO⟩, h1, h2⟩ := st
    obtain ⟨xs, ys, x, y, hqx, hqy, hx, hy⟩ := hg
    obtain ⟨its, rv, p, _⟩ := I.list hqx
    obtain ⟨its2, rv2, p2, _⟩ := I.tuple hqy
    obtain ⟨u, hu, ru⟩ := rv.get hx
    obtain ⟨u2, hu2, ru2⟩ := rv2.get hy
    have hzl : z < s.heap.objs.size := Heap.lt_size hz
    have hh : X.A.in1.handled = none := I.ok.hd hc
    refine wpAny_pyNext_zipD2_item (sep_of D) (Draws.list hh i1 a D.l1i1 its.toArray) (Draws.tuple hh i2 b D.l2i2 its2.toArray) hz hTI hTO ⟨h1, p.isList⟩ ⟨h2, p2⟩ ?_ ?_ fun x1 x2 h' tk y1 y2 z' TO' st1' st2' hT hsz hk => ?_
    · have := (List.getElem?_eq_some_iff.mp hu).1
      simpa using this
    · have := (List.getElem?_eq_some_iff.mp hu2).1
      simpa using this
    have e1 : x1 = u := by
      have : its[i]? = some x1 := by simpa using y1
      rw [hu] at this
      exact (Option.some.inj this).symm
    have e2 : x2 = u2 := by
      have : its2[i]? = some x2 := by simpa using y2
      rw [hu2] at this
      exact (Option.some.inj this).symm
    subst e1 e2
    refine ⟨_, rfl, wpAny_letOwnedTupleGo_zip (s := { s with heap := h', toks := tk }) z' fun h'' z'' sb => ?_⟩
    have hT2 : h''.get? s.heap.objs.size = some { cls := .type "tuple", data := .seq #[x1, x2] } := (sb.2 _ (Nat.ne_of_gt hzl)).trans hT
    have new : ObjOk X.prog X.w (upd H s.heap.objs.size (.tup [x, y])) h'' s.heap.objs.size (.tup [x, y]) :=
      ⟨by show 2 ≤ sizeLine; decide, [x1, x2], .cons ru (.cons ru2 .nil), ⟨_, hT2, rfl, _, rfl⟩⟩
    have I1 : Inv X pins σ (upd H s.heap.objs.size (.tup [x, y])) { s with heap := h'', toks := tk } :=
      I.turnedNew (t' := tk) (ch := [z, TI, TO, i1, i2]) (fun c o hb q => (sb.2 c (fun q' => hb (by simp [q']))).trans (hk c o (fun q' => hb (by simp [q'])) (fun q' => hb (by simp [q'])) (fun q' => hb (by simp [q'])) (fun q' => hb (by simp [q'])) q)) hf (Nat.le_refl _) new
    refine ⟨.ref s.heap.objs.size, _, I1, rfl, ⟨_, x, y, rfl, I.hok.fresh (Nat.le_refl _), rfl, fun l hl => by rw [I.list_inj hl hqx]; exact hx, fun l hl => by rw [I.tuple_inj hl hqy]; exact hy⟩, ⟨z'', ?_, ⟨x1, x2, ?_⟩, ?_, ?_⟩, fun c hcm => ?_⟩
    · exact (sb.2 _ D.TIz).trans (hk _ _ D.TIz D.TITO D.TIi1 D.TIi2 hTI)
    · exact (sb.2 _ D.TOz).trans TO'
    · exact st1'.1.at fun o q => (sb.2 _ D.i1z).trans q
    · exact st2'.1.at fun o q => (sb.2 _ D.i2z).trans q
    · have hlt : c < s.heap.objs.size := by
        have e' : c = z ∨ c = TI ∨ c = TO ∨ c = i1 ∨ c = i2 := by simpa using hcm
        rcases e' with q | q | q | q | q
        · rw [q]; exact hzl
        · rw [q]; exact Heap.lt_size hTI
        · rw [q]; exact Heap.lt_size hTO
        · rw [q]; obtain ⟨_, e1, _⟩ := h1; exact Heap.lt_size e1
        · rw [q]; obtain ⟨_, e2, _⟩ := h2; exact Heap.lt_size e2
      rw [upd_ne (Nat.ne_of_lt hlt)]
      exact (hf c hcm).1
  done := by
    intro X hP hw hK hc i pins s σ H E I hf st hg
    subst hP hw hK
    obtain ⟨hz, hTI, ⟨x0, y0, hTO⟩, h1, h2⟩ := st
    obtain ⟨xs, ys, hqx, hqy, le1, le2, hend⟩ := hg
    obtain ⟨its, rv, p, _⟩ := I.list hqx
    obtain ⟨its2, rv2, p2, _⟩ := I.tuple hqy
    have l1 := rv.length
    have l2 := rv2.length
    have hh : X.A.in1.handled = none := I.ok.hd hc
    have sz1 : its.toArray.size = its.length := by simp
    have sz2 : its2.toArray.size = its2.length := by simp
    exact wpAny_pyNext_zipD2_end (sep_of D) (Draws.list hh i1 a D.l1i1 its.toArray) (Draws.tuple hh i2 b D.l2i2 its2.toArray) hz hTI hTO ⟨h1, p.isList⟩ ⟨h2, p2⟩ (by omega) (by omega) (by omega) fun h' tk hk => ⟨rfl, I.turnedL (t' := tk) (ch := [z, TI, TO, i1, i2]) (fun c o hb q =>
      hk c o (fun q' => hb (by simp [q'])) (fun q' => hb (by simp [q'])) (fun q' => hb (by simp [q'])) (fun q' => hb (by simp [q'])) q) hf⟩
  self := fun A i s Q E st h => wpAny_pyIter_zip st.1 h
/-- zip(xs, ys): two tuples, or a list and a tuple -/
def iZipB (K : PySem.W.Frag) (ta : TA) : TI := fun σ H R => ta σ H fun vs H1 => ∃ a b xs ys, vs = [.ref a, .ref b] ∧ SqT K H1 b ys ∧ ((SqT K H1 a xs ∧ R (RZ.ItzT K a b) H1) ∨ (SqL K H1 a xs ∧ R (ItzM K a b) H1))
theorem pi_zipB {X : Cx} {e e2 : Expr} {ta : TA} {p pos tpos : Pos} {elts : List Expr} {kk : Nat} (hg : Gl X "zip") (hm : X.mg "zip" = none) (ha : PA X [e, e2] ta)
    (hs : starEach [e, e2] X.env = (false, eval e X.env) :: starEach [e2] X.env := by rfl) (hpl : (backTo pos (starEach [e2] X.env)).any (·.1) = false := by rfl) :
    PI X (.Tuple elts kk tpos) (.Call (.Name "zip" p) [e, e2] [] pos) (iZipB X.K ta) := by
  refine ⟨fun pins s σ H R I h => ?_⟩
  refine Call_ (ld_blt I hg hm PyProof.Rows.boot_zip (PyProof.Rows.callWith_type1 (thn (ha.run pos pins s σ H _ I h) fun us s1 ⟨vs, H1, I1, r1, q1⟩ => ?_) hs hpl))
  obtain ⟨a, b, xs, ys, ex, hqy, q⟩ := q1
  subst ex
  cases r1 with
  | cons r rr =>
    cases rr with
    | cons r' rr =>
      cases rr
      cases r
      cases r'
      have fresh5 : ∀ c, c ∈ [s1.heap.objs.size + 4, s1.heap.objs.size + 2, s1.heap.objs.size + 3, s1.heap.objs.size, s1.heap.objs.size + 1] → FpOk X pins H1 c := fun c hcm => by
        have hle : s1.heap.objs.size ≤ c := by
          have e' : c = s1.heap.objs.size + 4 ∨ c = s1.heap.objs.size + 2 ∨ c = s1.heap.objs.size + 3 ∨ c = s1.heap.objs.size ∨ c = s1.heap.objs.size + 1 := by simpa using hcm
          rcases e' with z | z | z | z | z
          · rw [z]; exact Nat.le_add_right _ _
          · rw [z]; exact Nat.le_add_right _ _
          · rw [z]; exact Nat.le_add_right _ _
          · rw [z]; exact Nat.le_refl _
          · rw [z]; exact Nat.le_add_right _ _
        exact I1.fpOk hle (I1.hok.fresh hle)
      rcases q with ⟨hqx, q⟩ | ⟨hqx, q⟩
      · obtain ⟨its, rv, p1, _⟩ := I1.tuple hqx
        obtain ⟨its2, rv2, p2, _⟩ := I1.tuple hqy
        obtain ⟨o1, ho1, _⟩ := id p1
        obtain ⟨o2, ho2, _⟩ := id p2
        refine RZ.call_zipT (show s1.heap.IsTuple a its.toArray from p1) (show s1.heap.IsTuple b its2.toArray from p2) fun h' hz hTI hTO h1 h2 hsz hk => wpAny_pyIter_zip hz ?_
        have I2 : Inv X pins σ H1 { s1 with heap := h' } := I1.kept (t' := s1.toks) hk
        exact ⟨s1.heap.objs.size + 4, [s1.heap.objs.size + 4, s1.heap.objs.size + 2, s1.heap.objs.size + 3, s1.heap.objs.size, s1.heap.objs.size + 1], _, _, H1, rfl, I2, RZ.turn_zipT (PySem.W.ktu_apart s1.heap.objs.size a b (Heap.lt_size ho1) (Heap.lt_size ho2)), ⟨hz, hTI, ⟨_, _, hTO⟩, h1, h2⟩, fresh5, q⟩
      · obtain ⟨its, rv, p1, _⟩ := I1.list hqx
        obtain ⟨its2, rv2, p2, _⟩ := I1.tuple hqy
        obtain ⟨o2, ho2, _⟩ := id p2
        refine zip_begins2 (begins_list a its.toArray) (begins_tuple b its2.toArray) p1.isList (show s1.heap.IsTuple b its2.toArray from p2) fun h' hz hTI hTO h1 h2 hsz hk => wpAny_pyIter_zip hz ?_
        have I2 : Inv X pins σ H1 { s1 with heap := h' } := I1.kept (t' := s1.toks) hk
        exact ⟨s1.heap.objs.size + 4, [s1.heap.objs.size + 4, s1.heap.objs.size + 2, s1.heap.objs.size + 3, s1.heap.objs.size, s1.heap.objs.size + 1], _, _, H1, rfl, I2, turn_zipM (PySem.W.ktu_apart s1.heap.objs.size a b p1.lt (Heap.lt_size ho2)), ⟨hz, hTI, ⟨_, _, hTO⟩, ⟨_, h1, rfl, rfl⟩, ⟨_, h2, rfl, rfl⟩⟩, fresh5, q⟩
end OC
set_option Elab.async false
set_option linter.all false
set_option maxRecDepth 100000
set_option maxHeartbeats 2000000
/-! t.index(i) of a tuple of ints -/
set_option Elab.async false
set_option linter.all false
set_option maxRecDepth 100000
set_option maxHeartbeats 4000000
namespace OC
open PySem PySem.Spec PyProof.Rows L2
/-! ### tuples that are known to have no dict: their methods -/
def TupF (H : Hp) (l : Addr) (xs : List V) : Prop := ∃ o : Obj, o.dict = none ∧ H l = some (.frz o (.tup xs))
theorem TupF.sq {K : PySem.W.Frag} {H : Hp} {l : Addr} {xs : List V} (h : TupF H l xs) : SqT K H l xs := by
  obtain ⟨o, _, h⟩ := h
  exact .inl (.inr ⟨o, h⟩)
theorem TupF.same {H H' : Hp} {l : Addr} {xs : List V} (s : Same H H') (h : TupF H l xs) : TupF H' l xs := by
  obtain ⟨o, n, h⟩ := h
  exact ⟨o, n, s _ _ h⟩
def rTupF (K : PySem.W.Frag) : List V → Hp → VK → Prop := fun xs H Q => ∃ p ys, xs = [.ref p] ∧ SqL K H p ys ∧ ∀ l o, H l = none → o.dict = none → Q (.ref l) (upd H l (.frz o (.tup ys)))
theorem call_tuple_F {X : Cx} : CallR X (.type "tuple") (rTupF X.K) := by
  intro pins s σ H xs us Q I r h
  obtain ⟨p, ys, rfl, hq, q⟩ := h
  obtain ⟨u, rfl, rx⟩ := vals1 r
  cases rx
  obtain ⟨its, r', pl, hz⟩ := I.list hq
  have hlen := r'.length
  refine call_tuple_list pl.isList (fun h' kp => ?_) (by simp only [List.size_toArray] <;> omega)
  have I1 : Inv X pins σ H { s with heap := h' } := I.kept (t' := s.toks) kp
  have I2 : Inv X pins σ (upd H h'.objs.size (.frz { cls := .type "tuple", data := .seq its.toArray } (.tup ys))) { s with heap := h'.push { cls := .type "tuple", data := .seq its.toArray } } :=
    I1.laid (t' := s.toks) (fun b o e => Heap.get?_push_of_some _ e) (Nat.le_refl _) (show ObjOk X.prog X.w _ _ _ (.frz { cls := .type "tuple", data := .seq its.toArray } (.tup ys)) from ⟨Heap.get?_push_size _ rfl, hz, its, r', IsTup.new _ _⟩)
  exact ⟨.ref h'.objs.size, _, I2, rfl, q _ _ (I1.hok.fresh (Nat.le_refl _)) rfl⟩
end OC
set_option Elab.async false
set_option linter.all false
set_option maxRecDepth 100000
set_option maxHeartbeats 4000000
namespace OC
open PySem PySem.Spec PyProof.Rows L2
theorem noLAll_mem : ∀ {ds : List PyData}, noLAll ds = true → ∀ d ∈ ds, noL d = true
  | [], _, d, h => (nomatch h)
  | x :: ds, e, d, h => by
    simp only [noLAll, Bool.and_eq_true] at e
    rcases List.mem_cons.mp h with rfl | h
    · exact e.1
    · exact noLAll_mem e.2 d h
theorem noLAll_of : ∀ {ds : List PyData}, (∀ d ∈ ds, noL d = true) → noLAll ds = true
  | [], _ => rfl
  | x :: ds, h => by
    simp only [noLAll, Bool.and_eq_true]
    exact ⟨h x List.mem_cons_self, noLAll_of fun d hd => h d (List.mem_cons_of_mem _ hd)⟩
/-- [x for x in xs if t], of data without lists -/
theorem lc_filterD {K : PySem.W.Frag} {J : It} {G : Hp → Prop} {vs : List V} {ds : List PyData} {σ : L2.St} {H : Hp} {Qd : Addr → Hp → Prop} {i : Nat} {sl : List Nat} {tt : TT} (q : PyData → Bool)
    (w : Walk J vs.length G (YAt vs)) (hG : ∀ H', Same H H' → G H') (hD : DpAll K H vs ds) (hn : noLAll ds = true) (hz : vs.length ≤ 10000) (hw : ∀ x : Option V, wipe ((wipe σ sl).set i x) sl = wipe σ sl) (hi : i < (wipe σ sl).length)
    (htt : ∀ (v : V) (d : PyData) (H' : Hp) (Q' : Bool → Hp → Prop), d ∈ ds → Dp K H' v d → Same H H' → (∀ H'', Same H' H'' → Q' (q d) H'') → tt ((wipe σ sl).set i (some v)) H' Q')
    (hd : ∀ D H' ws, Same H H' → H D = none → H' D = some (.lst ws) → DpAll K H' ws (ds.filter q) → Qd D H') :
    LcGoal J (gName i) tt (tVar i) sl σ H Qd := by
  intro D nD
  have lv := dpAll_len hD
  refine lc_it w (fun k H' => Same H H' ∧ ∃ ws, H' D = some (.lst ws) ∧ ws.length ≤ k ∧ DpAll K H' ws ((ds.take k).filter q)) ⟨same_mut (Same.refl H) nD, [], upd_same, Nat.le_refl _, .nil⟩ (fun k H' _ hP => hG H' hP.1) (fun k x H1 H2 hk hP hY => ?_) (fun H' hP => ?_)
  · obtain ⟨rfl, e1⟩ := hY
    obtain ⟨sm, ws, eD, lw, dw⟩ := hP
    obtain ⟨d, gd, md, hv⟩ := dpAll_get hD e1
    refine ⟨hw _, htt x d _ _ md (dp_same sm _ _ hv) sm fun H'' s2 => ?_⟩
    have eD2 := s2 _ _ eD
    have tk : (ds.take (k + 1)).filter q = (ds.take k).filter q ++ (if q d = true then [d] else []) := by
      rw [List.take_add_one, gd, List.filter_append]
      congr 1
      by_cases hq : q d = true
      · simp [hq]
      · simp [hq]
    have nf : noLAll ((ds.take k).filter q) = true := noLAll_of fun z hz => noLAll_mem hn z (List.mem_of_mem_take (List.mem_filter.mp hz).1)
    by_cases hq : q d = true
    · rw [hq]
      have tkk : Tk H'' (upd H'' D (.lst (ws ++ [x]))) := (Tk.refl _).mut eD2
      refine iteT ⟨x, by rw [List.getElem?_set_self hi], ws, eD2, small10k (by omega), same_mut (sm.trans s2) nD, ws ++ [x], upd_same, by rw [List.length_append]; simp; omega, ?_⟩
      rw [tk, if_pos hq]
      exact dpAll_append (dpAll_tk tkk _ _ nf (dpAll_same s2 _ _ dw)) (.cons (dp_tk tkk _ _ (noLAll_mem hn d md) (dp_same (sm.trans s2) _ _ hv)) .nil)
    · have hq' : q d = false := by simpa using hq
      rw [hq']
      refine iteF ⟨sm.trans s2, ws, eD2, by omega, ?_⟩
      rw [tk, if_neg hq, List.append_nil]
      exact dpAll_same s2 _ _ dw
  · obtain ⟨sm, ws, eD, lw, dw⟩ := hP
    rw [List.take_of_length_le (by omega)] at dw
    exact hd D H' ws sm nD eD dw
end OC
set_option Elab.async false
set_option linter.all false
set_option maxRecDepth 100000
set_option maxHeartbeats 4000000
/-! stage 4's plain form: rows reduced by one another, by mixes -/
namespace OC
open PySem PySem.Spec PyProof.Rows L2 Lin
theorem left_take {p : Int} {fs : List (List Int)} {r b : List Int} {j : Nat} (h : fs[j]? = some b) : leftR p (fs.take (j + 1)) r = lessR p (leftR p (fs.take j) r) b (fpR b) := by
  unfold leftR
  rw [List.take_add_one, h, List.foldl_append]
  rfl
inductive FAll (H : Hp) : List V → List (List Int) → Prop
  | nil : FAll H [] []
  | cons {b : Addr} {g : List Int} {vs : List V} {gs : List (List Int)} : TupF H b (g.map V.int) → FAll H vs gs → FAll H (.ref b :: vs) (g :: gs)
theorem FAll.same {H H' : Hp} (s : Same H H') : ∀ {vs : List V} {gs : List (List Int)}, FAll H vs gs → FAll H' vs gs
  | _, _, .nil => .nil
  | _, _, .cons h t => .cons (h.same s) (t.same s)
theorem FAll.app {H : Hp} : ∀ {vs us : List V} {gs hs : List (List Int)}, FAll H vs gs → FAll H us hs → FAll H (vs ++ us) (gs ++ hs)
  | _, _, _, _, .nil, h => h
  | _, _, _, _, .cons h t, h2 => .cons h (t.app h2)
theorem FAll.len {H : Hp} : ∀ {vs : List V} {gs : List (List Int)}, FAll H vs gs → vs.length = gs.length
  | _, _, .nil => rfl
  | _, _, .cons _ t => by rw [List.length_cons, List.length_cons, t.len]
theorem FAll.get {H : Hp} : ∀ {vs : List V} {gs : List (List Int)} {i : Nat} {v : V}, FAll H vs gs → vs[i]? = some v → ∃ b g, v = .ref b ∧ gs[i]? = some g ∧ TupF H b (g.map V.int)
  | _, _, _, _, .nil, h => by simp at h
  | _, _, 0, _, .cons (b := b) (g := g) h t, e => by cases e; exact ⟨b, g, rfl, rfl, h⟩
  | _, _, i + 1, v, .cons h t, e => t.get (i := i) (v := v) e
theorem FAll.mut {H : Hp} {D : Addr} {xs : List V} {o : HO} (e : H D = some (.lst xs)) : ∀ {vs : List V} {gs : List (List Int)}, FAll H vs gs → FAll (upd H D o) vs gs
  | _, _, .nil => .nil
  | _, _, .cons h t => by
    obtain ⟨ob, n, h⟩ := h
    exact .cons ⟨ob, n, by rw [upd_ne (fun z => by rw [z, e] at h; cases h)]; exact h⟩ (t.mut e)
theorem FAll.dp {K : PySem.W.Frag} {H : Hp} : ∀ {vs : List V} {gs : List (List Int)}, FAll H vs gs → DpAll K H vs (gs.map rowD)
  | _, _, .nil => .nil
  | _, _, .cons h t => .cons (row_dp h.sq) t.dp
def posR (r : List Int) (k : Nat) : List Nat := (List.range k).filter fun i => decide (r.getD i 0 > 0)
theorem posR_succ (r : List Int) (k : Nat) : posR r (k + 1) = posR r k ++ (if r.getD k 0 > 0 then [k] else []) := by
  unfold posR
  rw [List.range_succ, List.filter_append]
  congr 1
  by_cases h0 : r.getD k 0 > 0
  · rw [if_pos h0]
    exact List.filter_cons_of_pos (decide_eq_true h0)
  · rw [if_neg h0]
    exact List.filter_cons_of_neg (by rw [decide_eq_false h0]; decide)
theorem posR_nz {p : Int} {r : List Int} (h : ∀ x ∈ r, 0 ≤ x ∧ x < p) (hp : 0 < p) (k : Nat) : posR r k = nzsR r k := by
  unfold posR nzsR
  refine List.filter_congr fun i _ => decide_eq_decide.mpr ?_
  have := (getD_lt hp h i).1
  omega
end OC
set_option Elab.async false
set_option linter.all false
set_option maxRecDepth 100000
set_option maxHeartbeats 4000000
/-! stage 4's drawn stands -/
set_option Elab.async false
set_option linter.all false
set_option maxRecDepth 100000
set_option maxHeartbeats 4000000
/-! sorted of a list of data: tuples of texts, tuples of these, the empty tuple first among them -/
set_option Elab.async false
set_option linter.all false
set_option maxRecDepth 100000
set_option maxHeartbeats 4000000
/-! parts of a group: tuples of texts, all of them, sorted -/
namespace OC
open PySem PySem.Spec PyProof.Rows L2 PySem.W
def txD (s : List Str) : PyData := .tuple (s.map PyData.str)
theorem dpAll_strs {K : PySem.W.Frag} {H : Hp} : ∀ ns : List Str, DpAll K H (ns.map V.str) (ns.map PyData.str)
  | [] => .nil
  | x :: ns => .cons (.str x) (dpAll_strs ns)
theorem name_strOk {x : Str} (h : NameOk x) : PyData.strOk x = true := by
  unfold PyData.strOk
  rw [← Array.all_toList]
  refine List.all_eq_true.mpr fun c hc => decide_eq_true ?_
  have := (h.2.2 c hc).2
  omega
theorem plain_app_le {p : Int} (hF : Fld p) {n : Nat} : ∀ (ts rs : List (List Int)), RowsOk p n rs → RowsOk p n ts → (plainR p n rs).length ≤ (plainR p n (rs ++ ts)).length
  | [], rs, _, _ => by rw [List.append_nil]; exact Nat.le_refl _
  | t :: ts, rs, h, ht => by
    have o1 := rowsOk_one (ht t List.mem_cons_self)
    have h1 := plain_one_more hF h o1
    have h2 := plain_app_le hF ts (rs ++ [t]) (rowsOk_app h o1) (fun x hx => ht x (List.mem_cons_of_mem _ hx))
    rw [List.append_assoc] at h2
    have h2 : (plainR p n (rs ++ [t])).length ≤ (plainR p n (rs ++ t :: ts)).length := h2
    omega
theorem plain_mono {p : Int} (hF : Fld p) {n : Nat} {rs ts : List (List Int)} (h1 : RowsOk p n rs) (h2 : RowsOk p n ts) (h : ∀ r ∈ rs, InR p ts r) : (plainR p n rs).length ≤ (plainR p n ts).length := by
  have e : plainR p n (rs ++ ts) = plainR p n ts := plain_same hF (rowsOk_app h1 h2) h2 (fun r hr => by
    rcases List.mem_append.mp hr with hr | hr
    · exact h r hr
    · exact InR.mem hr) (fun r hr => InR.mem (List.mem_append_right _ hr))
  rw [← e]
  exact plain_app_le hF ts rs h1 h2
theorem sel_mem {ns : List Str} {r : List Int} : ∀ {hs : List (Str × List (List Int))}, r ∈ selR ns hs → ∃ h ∈ hs, h.1 ∈ ns ∧ r ∈ h.2
  | [], hr => (nomatch hr)
  | h :: hs, hr => by
    have e : selR ns (h :: hs) = (if h.1 ∈ ns then h.2 else []) ++ selR ns hs := rfl
    rw [e] at hr
    rcases List.mem_append.mp hr with hr | hr
    · by_cases hn : h.1 ∈ ns
      · rw [if_pos hn] at hr
        exact ⟨h, List.mem_cons_self, hn, hr⟩
      · rw [if_neg hn] at hr
        exact (nomatch hr)
    · obtain ⟨x, mx, a, b⟩ := sel_mem hr
      exact ⟨x, List.mem_cons_of_mem _ mx, a, b⟩
theorem mem_sel {ns : List Str} {r : List Int} : ∀ {hs : List (Str × List (List Int))} {h : Str × List (List Int)}, h ∈ hs → h.1 ∈ ns → r ∈ h.2 → r ∈ selR ns hs
  | [], _, hh, _, _ => (nomatch hh)
  | x :: hs, h, hh, hn, hr => by
    have e : selR ns (x :: hs) = (if x.1 ∈ ns then x.2 else []) ++ selR ns hs := rfl
    rw [e]
    rcases List.mem_cons.mp hh with rfl | hh
    · rw [if_pos hn]
      exact List.mem_append_left _ hr
    · exact List.mem_append_right _ (mem_sel hh hn hr)
end OC
set_option Elab.async false
set_option linter.all false
set_option maxRecDepth 100000
set_option maxHeartbeats 4000000
/-! partings of a group; comprehensions with two clauses -/
namespace OC
open PySem PySem.Spec PyProof.Rows L2 PySem.W
/-! ### two clauses -/
/-! ### partings as data -/
def ptD (s : List (List Str)) : PyData := .tuple (s.map txD)
/-! ### the splits of some names -/
def growR (x : Str) (s : List (List Str)) : List (List (List Str)) := (List.range s.length).map (fun k => s.take k ++ ([s.getD k [] ++ [x]] ++ s.drop (k + 1))) ++ [s ++ [[x]]]
def splitsR (ns : List Str) : List (List (List Str)) := ns.foldl (fun acc x => acc.flatMap (growR x)) [[]]
structure SplitOk (ns : List Str) (s : List (List Str)) : Prop where
  pm : s.flatten.Perm ns
  ne : ∀ p ∈ s, p ≠ []
  le : s.length ≤ ns.length
theorem grow_mem {x : Str} {s t : List (List Str)} (h : t ∈ growR x s) : (∃ k, k < s.length ∧ t = s.take k ++ ([s.getD k [] ++ [x]] ++ s.drop (k + 1))) ∨ t = s ++ [[x]] := by
  unfold growR at h
  rcases List.mem_append.mp h with h | h
  · obtain ⟨k, mk, rfl⟩ := List.mem_map.mp h
    exact .inl ⟨k, List.mem_range.mp mk, rfl⟩
  · exact .inr (List.mem_singleton.mp h)
theorem split_at {s : List (List Str)} {k : Nat} (h : k < s.length) : s = s.take k ++ ([s.getD k []] ++ s.drop (k + 1)) := by
  have e : s.getD k [] = s[k] := by rw [List.getD_eq_getElem?_getD, List.getElem?_eq_getElem h]; rfl
  rw [e]
  have : [s[k]] ++ s.drop (k + 1) = s.drop k := (List.drop_eq_getElem_cons h).symm
  rw [this, List.take_append_drop]
theorem grow_ok {ns : List Str} {x : Str} {s t : List (List Str)} (o : SplitOk ns s) (h : t ∈ growR x s) : SplitOk (ns ++ [x]) t := by
  rcases grow_mem h with ⟨k, hk, rfl⟩ | rfl
  · have es := split_at hk
    refine ⟨?_, fun p hp => ?_, ?_⟩
    · have pm := o.pm
      rw [es] at pm
      simp only [List.flatten_append, List.flatten_cons, List.flatten_nil, List.append_nil] at pm ⊢
      refine List.Perm.trans ?_ (pm.append_right [x])
      simp only [List.append_assoc]
      refine List.Perm.append_left _ (List.Perm.append_left _ ?_)
      exact List.perm_append_comm
    · rcases List.mem_append.mp hp with hp | hp
      · exact o.ne p (List.mem_of_mem_take hp)
      · rcases List.mem_append.mp hp with hp | hp
        · rw [List.mem_singleton.mp hp]
          simp
        · exact o.ne p (List.mem_of_mem_drop hp)
    · have := o.le
      simp only [List.length_append, List.length_take, List.length_drop, List.length_cons, List.length_nil]
      omega
  · refine ⟨?_, fun p hp => ?_, ?_⟩
    · rw [List.flatten_append]
      exact o.pm.append_right [x]
    · rcases List.mem_append.mp hp with hp | hp
      · exact o.ne p hp
      · rw [List.mem_singleton.mp hp]
        simp
    · have := o.le
      simp only [List.length_append, List.length_cons, List.length_nil]
      omega
theorem splits_okF : ∀ (ns ms : List Str) (acc : List (List (List Str))), (∀ s ∈ acc, SplitOk ms s) → ∀ t ∈ ns.foldl (fun acc x => acc.flatMap (growR x)) acc, SplitOk (ms ++ ns) t
  | [], ms, acc, h, t, ht => by rw [List.append_nil]; exact h t ht
  | x :: ns, ms, acc, h, t, ht => by
    have := splits_okF ns (ms ++ [x]) (acc.flatMap (growR x)) (fun s hs => by
      obtain ⟨u, mu, hu⟩ := List.mem_flatMap.mp hs
      exact grow_ok (h u mu) hu) t ht
    rwa [List.append_assoc] at this
theorem splits_ok {ns : List Str} {s : List (List Str)} (h : s ∈ splitsR ns) : SplitOk ns s := by
  have := splits_okF ns [] [[]] (fun s hs => by
    rw [List.mem_singleton.mp hs]
    exact ⟨.refl _, fun p hp => (nomatch hp), Nat.le_refl _⟩) s h
  exact this
/-- all partings of a group, rising -/
def partingsR (ns : List Str) : List (List (List Str)) := ((splitsR ns).filter fun s => decide (s.length > 1)).mergeSort (dataLe false ptD)
theorem partings_mem {ns : List Str} {s : List (List Str)} : s ∈ partingsR ns ↔ s ∈ splitsR ns ∧ 1 < s.length := by
  unfold partingsR
  rw [(List.mergeSort_perm _ _).mem_iff, List.mem_filter]
  exact ⟨fun h => ⟨h.1, of_decide_eq_true h.2⟩, fun h => ⟨h.1, decide_eq_true h.2⟩⟩
end OC
set_option Elab.async false
set_option linter.all false
set_option maxRecDepth 100000
set_option maxHeartbeats 4000000
/-! how much hands know together: partings of a group -/
namespace OC
open PySem PySem.Spec PyProof.Rows L2
/-- what a look at a stand asks of it -/
structure StandR (p : Int) (n : Nat) (kn : List (List Int)) (hs : List (Str × List (List Int))) : Prop where
  fld : Fld p
  p1 : p ≤ 1000
  n1 : 1 ≤ n
  n8 : n ≤ 8
  ok : RowsOk p n kn
  lk : kn.length ≤ 8
  many : hs.length ≤ 9
  rm : ∀ x ∈ hs, RowsOk p n x.2
  lr : ∀ x ∈ hs, x.2.length ≤ 8
theorem Stand5.toR {p : Int} {n : Nat} {kn : List (List Int)} {hs : List (Str × List (List Int))} (S : Stand5 p n kn hs) : StandR p n kn hs where
  fld := S.fld
  p1 := S.p1
  n1 := S.n1
  n8 := S.n8
  ok := S.pk.1
  lk := Nat.le_trans (PFR.len S.fld S.pk) S.n8
  many := S.many
  rm := fun x hx => (S.ph x hx).1
  lr := fun x hx => Nat.le_trans (PFR.len S.fld (S.ph x hx)) S.n8
/-- how much some hands know together beyond the calls -/
def sizeR (p : Int) (n : Nat) (kn : List (List Int)) (hs : List (Str × List (List Int))) (ns : List Str) : Int := ((plainR p n (kn ++ selR ns hs)).length : Int) - (kn.length : Int)
section
variable {p : Int} {n : Nat} {kn : List (List Int)} {hs : List (Str × List (List Int))}
theorem size_mono (G : StandR p n kn hs) {ns ms : List Str} (h : ∀ x ∈ ns, x ∈ ms) : sizeR p n kn hs ns ≤ sizeR p n kn hs ms := by
  have := plain_mono G.fld (n := n) (rs := kn ++ selR ns hs) (ts := kn ++ selR ms hs) (rowsOk_app G.ok (sel_ok G.rm)) (rowsOk_app G.ok (sel_ok G.rm)) (fun r hr => by
    rcases List.mem_append.mp hr with hr | hr
    · exact InR.mem (List.mem_append_left _ hr)
    · obtain ⟨x, mx, a, b⟩ := sel_mem hr
      exact InR.mem (List.mem_append_right _ (mem_sel mx (h _ a) b)))
  unfold sizeR
  omega
end
end OC
set_option Elab.async false
set_option linter.all false
set_option maxRecDepth 100000
set_option maxHeartbeats 4000000
/-! sorted of a tuple of data -/
set_option Elab.async false
set_option linter.all false
set_option maxRecDepth 100000
set_option maxHeartbeats 4000000
/-! asides: a call that tells the one and not the other -/
namespace OC
open PySem PySem.Spec PyProof.Rows L2
section
variable {p : Int} {n : Nat} {A : List (List Int)} {x y : List Int}
/-- a row that a second one brings in brings in the second one -/
theorem InR.exch (hF : Fld p) (hA : RowsOk p n A) (hx : RowsOk p n [x]) (hy : RowsOk p n [y]) (h : InR p (A ++ [x]) y) (hn : ¬ InR p A y) : InR p (A ++ [y]) x := by
  have nx : ¬ InR p A x := fun z => hn (InR.mono (fun r hr => by
    rcases List.mem_append.mp hr with hr | hr
    · exact InR.mem hr
    · rw [List.mem_singleton.mp hr]
      exact z) h)
  have h1 := plain_one_more hF hA hx
  have h2 := plain_one_more hF hA hy
  have h3 := plain_one_more hF (rowsOk_app hA hx) hy
  have h4 := plain_one_more hF (rowsOk_app hA hy) hx
  rw [if_neg (fun z => nx ((hasR_in hF hA hx).mp z))] at h1
  rw [if_neg (fun z => hn ((hasR_in hF hA hy).mp z))] at h2
  rw [if_pos ((hasR_in hF (rowsOk_app hA hx) hy).mpr h)] at h3
  have e : plainR p n (A ++ [x] ++ [y]) = plainR p n (A ++ [y] ++ [x]) := plain_same hF (rowsOk_app (rowsOk_app hA hx) hy) (rowsOk_app (rowsOk_app hA hy) hx) (fun r hr => InR.mem (by
    simp only [List.mem_append, List.mem_singleton] at hr ⊢
    rcases hr with (hr | hr) | hr
    · exact .inl (.inl hr)
    · exact .inr hr
    · exact .inl (.inr hr))) (fun r hr => InR.mem (by
    simp only [List.mem_append, List.mem_singleton] at hr ⊢
    rcases hr with (hr | hr) | hr
    · exact .inl (.inl hr)
    · exact .inr hr
    · exact .inl (.inr hr)))
  rw [e] at h3
  by_cases hh : hasR p n (A ++ [y]) x = true
  · exact (hasR_in hF (rowsOk_app hA hy) hx).mp hh
  · rw [if_neg hh] at h4
    omega
theorem has_plain (hF : Fld p) (hA : RowsOk p n A) (hx : RowsOk p n [x]) : hasR p n (plainR p n A) x = true ↔ InR p A x := by
  rw [hasR_in hF (PFR.of_plain hF hA).1 hx]
  exact InR.plain hF hA
theorem has_pf (hF : Fld p) (hA : PFR p n A) (hx : RowsOk p n [x]) : hasR p n A x = true ↔ InR p A x := hasR_in hF hA.1 hx
end
def wayR (p : Int) (n : Nat) (C L : List (List Int)) (r : List Int) : List (List Int) := meetR p n C (plainR p n (L ++ [r]))
def asideB (p : Int) (n : Nat) (C L O : List (List Int)) (r c : List Int) : Bool := hasR p n C c && hasR p n (plainR p n (L ++ [c])) r && !hasR p n (plainR p n (O ++ [c])) r
def barredB (p : Int) (n : Nat) (C L O : List (List Int)) (r : List Int) : Bool :=
  (wayR p n C L r).all (hasR p n L) || ((wayR p n C L r).all (hasR p n (plainR p n (O ++ [r]))) && (meetR p n (wayR p n C L r) O).all (hasR p n L))
def outR (p : Int) (n : Nat) (room rows : List (List Int)) : Option (List Int) := rows.find? fun x => !hasR p n room x
/-- the call that is told -/
def callR (p : Int) (n : Nat) (C L O : List (List Int)) (r : List Int) : Option (List Int) :=
  if barredB p n C L O r = true then none else
  match outR p n (plainR p n (O ++ [r])) (wayR p n C L r) with
  | none => outR p n L (meetR p n (wayR p n C L r) O)
  | some s => match outR p n L (wayR p n C L r) with
    | none => none
    | some w => if asideB p n C L O r w = true then some w else if asideB p n C L O r s = true then some s else some (addR p w s)
section
variable {p : Int} {n : Nat} {C L O room rows : List (List Int)} {r c : List Int}
theorem out_some (h : outR p n room rows = some c) : c ∈ rows ∧ hasR p n room c = false := by
  unfold outR at h
  have h1 := List.mem_of_find?_eq_some h
  have h2 := List.find?_some h
  exact ⟨h1, by simpa using h2⟩
theorem out_none (h : outR p n room rows = none) : rows.all (hasR p n room) = true := by
  unfold outR at h
  refine List.all_eq_true.mpr fun x hx => ?_
  have := List.find?_eq_none.mp h x hx
  simpa using this
theorem way_pf (hF : Fld p) : PFR p n (wayR p n C L r) := meet_pf hF
theorem way_in (hF : Fld p) (hC : PFR p n C) (hL : PFR p n L) (hr : RowsOk p n [r]) (x : List Int) : InR p (wayR p n C L r) x ↔ InR p C x ∧ InR p (L ++ [r]) x := by
  unfold wayR
  rw [InR.meet hF hC (PFR.of_plain hF (rowsOk_app hL.1 hr)), InR.plain hF (rowsOk_app hL.1 hr)]
theorem all_pf {one other : List (List Int)} (hF : Fld p) (h1 : PFR p n one) (h2 : PFR p n other) : one.all (hasR p n other) = true ↔ ∀ x, InR p one x → InR p other x := by
  rw [all_in hF h1.1 h2.1]
  exact ⟨fun h x hx => InR.mono h hx, fun h r hr => h r (InR.mem hr)⟩
/-- what such a call is: of the way, strange to the learner, and either strange to the other one told the row or its own -/
theorem aside_iff (hF : Fld p) (hC : PFR p n C) (hL : PFR p n L) (hO : PFR p n O) (hr : RowsOk p n [r]) (hc : RowsOk p n [c]) (nL : ¬ InR p L r) (nO : ¬ InR p O r) : asideB p n C L O r c = true ↔ InR p (wayR p n C L r) c ∧ ¬ InR p L c ∧ (¬ InR p (O ++ [r]) c ∨ InR p O c) := by
  unfold asideB
  rw [Bool.and_eq_true, Bool.and_eq_true, Bool.not_eq_true', has_pf hF hC hc, has_plain hF (rowsOk_app hL.1 hc) hr, way_in hF hC hL hr]
  have e2 : hasR p n (plainR p n (O ++ [c])) r = false ↔ ¬ InR p (O ++ [c]) r := by
    rw [← has_plain hF (rowsOk_app hO.1 hc) hr]
    simp
  rw [e2]
  have sub : ∀ {A : List (List Int)} {z : List Int}, RowsOk p n A → InR p A z → ∀ w, InR p (A ++ [z]) w → InR p A w := fun hA hz w hw => InR.mono (fun q hq => by
    rcases List.mem_append.mp hq with hq | hq
    · exact InR.mem hq
    · rw [List.mem_singleton.mp hq]
      exact hz) hw
  constructor
  · rintro ⟨⟨h1, h2⟩, h3⟩
    refine ⟨⟨h1, InR.exch hF hL.1 hc hr h2 nL⟩, fun z => nL (sub hL.1 z r h2), ?_⟩
    by_cases hoc : InR p O c
    · exact .inr hoc
    · exact .inl fun z => h3 (InR.exch hF hO.1 hr hc z hoc)
  · rintro ⟨⟨h1, h2⟩, h3, h4⟩
    refine ⟨⟨h1, InR.exch hF hL.1 hr hc h2 h3⟩, fun z => ?_⟩
    rcases h4 with h4 | h4
    · exact h4 (InR.exch hF hO.1 hc hr z nO)
    · exact nO (sub hO.1 h4 r z)
theorem barred_none (hF : Fld p) (hC : PFR p n C) (hL : PFR p n L) (hO : PFR p n O) (hr : RowsOk p n [r]) (nL : ¬ InR p L r) (nO : ¬ InR p O r) (hb : barredB p n C L O r = true) (hc : RowsOk p n [c]) : asideB p n C L O r c = false := by
  cases h : asideB p n C L O r c with
  | false => rfl
  | true =>
    exfalso
    obtain ⟨h1, h2, h3⟩ := (aside_iff hF hC hL hO hr hc nL nO).mp h
    have pw := way_pf (C := C) (L := L) (r := r) (n := n) hF
    unfold barredB at hb
    rw [Bool.or_eq_true, Bool.and_eq_true, all_pf hF pw hL, all_pf hF pw (PFR.of_plain hF (rowsOk_app hO.1 hr)), all_pf hF (meet_pf hF) hL] at hb
    rcases hb with hb | ⟨hb1, hb2⟩
    · exact h2 (hb c h1)
    · rcases h3 with h3 | h3
      · exact h3 ((InR.plain hF (rowsOk_app hO.1 hr)).mp (hb1 c h1))
      · exact h2 (hb2 c ((InR.meet hF pw hO c).mpr ⟨h1, h3⟩))
theorem add_plus (p : Int) (x y : List Int) : addR p x y = plusR p x y 1 := (plus1 p x y).symm
theorem call_good (hF : Fld p) (hC : PFR p n C) (hL : PFR p n L) (hO : PFR p n O) (hr : RowsOk p n [r]) (nL : ¬ InR p L r) (nO : ¬ InR p O r) (hb : barredB p n C L O r = false) : ∃ c, callR p n C L O r = some c ∧ RowsOk p n [c] ∧ asideB p n C L O r c = true := by
  have p2 := hF.1
  have pw := way_pf (C := C) (L := L) (r := r) (n := n) hF
  have pOr := PFR.of_plain hF (rowsOk_app hO.1 hr)
  have pm : PFR p n (meetR p n (wayR p n C L r) O) := meet_pf hF
  have nhas : ∀ {R : List (List Int)} {z : List Int}, PFR p n R → RowsOk p n [z] → hasR p n R z = false → ¬ InR p R z := fun hR hz h q => by
    rw [(has_pf hF hR hz).mpr q] at h
    cases h
  have hb' := hb
  unfold barredB at hb'
  rw [Bool.or_eq_false_iff] at hb'
  obtain ⟨b1, b2⟩ := hb'
  unfold callR
  rw [if_neg (by rw [hb]; decide)]
  cases hs : outR p n (plainR p n (O ++ [r])) (wayR p n C L r) with
  | none =>
    have ho := out_none hs
    rw [ho, Bool.true_and] at b2
    cases hw : outR p n L (meetR p n (wayR p n C L r) O) with
    | none => rw [out_none hw] at b2; cases b2
    | some w =>
      obtain ⟨m1, m2⟩ := out_some hw
      have okw := rowsOk_one (pm.1 w m1)
      obtain ⟨i1, i2⟩ := (InR.meet hF pw hO w).mp (InR.mem m1)
      exact ⟨w, rfl, okw, (aside_iff hF hC hL hO hr okw nL nO).mpr ⟨i1, nhas hL okw m2, .inr i2⟩⟩
  | some s =>
    obtain ⟨ms, hs2⟩ := out_some hs
    have oks := rowsOk_one (pw.1 s ms)
    have sO : ¬ InR p (O ++ [r]) s := fun z => nhas pOr oks hs2 ((InR.plain hF (rowsOk_app hO.1 hr)).mpr z)
    cases hw : outR p n L (wayR p n C L r) with
    | none => rw [out_none hw] at b1; cases b1
    | some w =>
      obtain ⟨mw, hw2⟩ := out_some hw
      have okw := rowsOk_one (pw.1 w mw)
      have wL : ¬ InR p L w := nhas hL okw hw2
      dsimp only
      by_cases a1 : asideB p n C L O r w = true
      · rw [if_pos a1]
        exact ⟨w, rfl, okw, a1⟩
      · rw [if_neg a1]
        by_cases a2 : asideB p n C L O r s = true
        · rw [if_pos a2]
          exact ⟨s, rfl, oks, a2⟩
        · rw [if_neg a2]
          have l1 := (pw.1 w mw).1
          have l2 := (pw.1 s ms).1
          have oka : RowsOk p n [addR p w s] := by
            rw [add_plus]
            exact rowsOk_one (plus_row (by omega) l1 l2 1)
          refine ⟨_, rfl, oka, (aside_iff hF hC hL hO hr oka nL nO).mpr ?_⟩
          have sL : InR p L s := by
            by_cases z : InR p L s
            · exact z
            · exact absurd ((aside_iff hF hC hL hO hr oks nL nO).mpr ⟨InR.mem ms, z, .inl sO⟩) a2
          have wO : InR p (O ++ [r]) w := by
            by_cases z : InR p (O ++ [r]) w
            · exact z
            · exact absurd ((aside_iff hF hC hL hO hr okw nL nO).mpr ⟨InR.mem mw, wL, .inl z⟩) a1
          have ll : w.length = s.length := by rw [l1, l2]
          have back : ∀ {R : List (List Int)} {u v : List Int}, u.length = v.length → u.length = n → (∀ x ∈ u, 0 ≤ x ∧ x < p) → InR p R (addR p u v) → InR p R v → InR p R u := fun {R u v} hl hu hb h1 h2 => by
            have h3 := InR.plus (p := p) (p - 1) (show (addR p u v).length = v.length by rw [add_len hl, hl]) h1 h2
            have e : plusR p (addR p u v) v (p - 1) = u := by
              unfold plusR addR
              refine List.ext_getElem ?_ fun i h1 h2 => ?_
              · simp only [List.length_zipWith]; omega
              · rw [List.getElem_zipWith, List.getElem_zipWith]
                have bi := hb u[i] (List.getElem_mem h2)
                have hv : i < v.length := by omega
                rw [Int.add_comm ((u[i] + v[i]) % p), Int.add_emod_emod, Int.sub_mul, Int.one_mul]
                rw [show p * v[i] - v[i] + (u[i] + v[i]) = u[i] + p * v[i] by omega, Int.add_mul_emod_self_left]
                exact Int.emod_eq_of_lt bi.1 bi.2
            rwa [e] at h3
          have comm : addR p w s = addR p s w := by
            unfold addR
            rw [List.zipWith_comm]
            congr 1
            funext a b
            rw [Int.add_comm]
          refine ⟨?_, fun z => wL (back ll l1 (pw.1 w mw).2 z sL), .inl fun z => sO (back ll.symm l2 (pw.1 s ms).2 (by rw [← comm]; exact z) wO)⟩
          rw [add_plus]
          exact InR.plus 1 ll (InR.mem mw) (InR.mem ms)
end
/-- three rooms as data -/
def r3D (C L O : List (List Int)) : PyData := .tuple [roomD C, roomD L, roomD O]
theorem noL_room (R : List (List Int)) : noL (roomD R) = true := by
  unfold roomD
  simp only [noL, noL_rows]
theorem dp_r3 {K : PySem.W.Frag} {H : Hp} {v : V} {C L O : List (List Int)} (h : Dp K H v (r3D C L O)) : ∃ a b c d, v = .ref a ∧ SqT K H a [.ref b, .ref c, .ref d] ∧ RowsAt K H b C ∧ RowsAt K H c L ∧ RowsAt K H d O := by
  have one : ∀ {v : V} {R : List (List Int)}, Dp K H v (roomD R) → ∃ a, v = .ref a ∧ RowsAt K H a R := fun h => by
    unfold roomD at h
    cases h with
    | tup h1 h2 => exact ⟨_, rfl, _, h1, h2⟩
  unfold r3D at h
  cases h with
  | tup h1 h2 =>
    cases h2 with
    | cons a1 h2 =>
      cases h2 with
      | cons a2 h2 =>
        cases h2 with
        | cons a3 h2 =>
          cases h2
          obtain ⟨b, rfl, hb⟩ := one a1
          obtain ⟨c, rfl, hc⟩ := one a2
          obtain ⟨d, rfl, hd⟩ := one a3
          exact ⟨_, b, c, d, rfl, h1, hb, hc, hd⟩
end OC
set_option Elab.async false
set_option linter.all false
set_option maxRecDepth 100000
set_option maxHeartbeats 4000000
/-! dict() of a tuple of pairs -/
set_option Elab.async false
set_option linter.all false
set_option maxRecDepth 100000
set_option maxHeartbeats 4000000
/-! asides: all calls of a room by five -/
namespace OC
open PySem PySem.Spec PyProof.Rows L2
/-! ### a stand taken by five -/
theorem sel_one : ∀ {hs : List (Str × List (List Int))} {h : Str × List (List Int)}, (hs.map Prod.fst).Nodup → h ∈ hs → selR [h.1] hs = h.2
  | [], _, _, hh => (nomatch hh)
  | x :: hs, h, nd, hh => by
    rw [List.map_cons, List.nodup_cons] at nd
    have none : ∀ {y : Str}, y ∉ hs.map Prod.fst → selR [y] hs = [] := fun {y} ny => by
      unfold selR
      refine List.flatMap_eq_nil_iff.mpr fun z hz => if_neg fun e => ny ?_
      rw [← List.mem_singleton.mp e]
      exact List.mem_map_of_mem hz
    have cons : selR [h.1] (x :: hs) = (if x.1 ∈ [h.1] then x.2 else []) ++ selR [h.1] hs := rfl
    rw [cons]
    rcases List.mem_cons.mp hh with rfl | hh
    · rw [if_pos (List.mem_singleton.mpr rfl), none nd.1, List.append_nil]
    · rw [if_neg (fun e => nd.1 (by rw [List.mem_singleton.mp e]; exact List.mem_map_of_mem hh)), sel_one nd.2 hh]
      rfl
/-! ### the rooms by their names -/
/-- a dict that holds a room for each of those names -/
def RoomsD (K : PySem.W.Frag) (H : Hp) (o : Addr) (hs : List (Str × List (List Int))) : Prop := ∃ kvs : List (L2.Key × V), H o = some (.dK kvs) ∧ ∀ h ∈ hs, ∃ r, valV kvs (.inr h.1) = some (.ref r) ∧ RowsAt K H r h.2
theorem rowsAt_tk {K : PySem.W.Frag} {H H' : Hp} {a : Addr} {rs : List (List Int)} (k : Tk H H') (h : RowsAt K H a rs) : RowsAt K H' a rs := by
  obtain ⟨ws, h1, h2⟩ := h
  exact ⟨ws, k _ _ _ h1, dpAll_tk k _ _ (noL_rows _) h2⟩
theorem RoomsD.same {K : PySem.W.Frag} {H H' : Hp} {o : Addr} {hs : List (Str × List (List Int))} (s : Same H H') (h : RoomsD K H o hs) : RoomsD K H' o hs := by
  obtain ⟨kvs, h1, h2⟩ := h
  refine ⟨kvs, s _ _ h1, fun x hx => ?_⟩
  obtain ⟨r, h3, h4⟩ := h2 x hx
  exact ⟨r, h3, rowsAt_tk (Tk.of s) h4⟩
theorem RoomsD.kept {K : PySem.W.Frag} {H H' : Hp} {o d c : Addr} {t : Int} {hs : List (Str × List (List Int))} (D : Deck H d c t) (k : Kept d c H H') (h : RoomsD K H o hs) : RoomsD K H' o hs := by
  obtain ⟨kvs, h1, h2⟩ := h
  refine ⟨kvs, k _ _ h1 (fun z => by subst z; rw [D.hd] at h1; cases h1) (fun z => by subst z; obtain ⟨_, hc, _⟩ := D.hc; rw [hc] at h1; cases h1), fun x hx => ?_⟩
  obtain ⟨r, h3, h4⟩ := h2 x hx
  exact ⟨r, h3, rowsAt_tk (Tk.kept D k) h4⟩
/-- the stand by five, whose hands' tuple has no dict -/
def FiveAt (K : PySem.W.Frag) (H : Hp) (a : Addr) (n : Nat) (kn : List (List Int)) (hs : List (Str × List (List Int))) : Prop := ∃ (k g : Addr) (ws : List V), SqT K H a [.int 5, .int (n : Int), .ref k, .ref g] ∧ RowsAt K H k kn ∧ TupF H g ws ∧ DpAll K H ws (hs.map handD)
theorem FiveAt.same {K : PySem.W.Frag} {H H' : Hp} {a : Addr} {n : Nat} {kn : List (List Int)} {hs : List (Str × List (List Int))} (s : Same H H') (h : FiveAt K H a n kn hs) : FiveAt K H' a n kn hs := by
  obtain ⟨k, g, ws, h1, h2, h3, h4⟩ := h
  exact ⟨k, g, ws, Same.tup s h1, rowsAt_tk (Tk.of s) h2, h3.same s, dpAll_same s _ _ h4⟩
theorem FiveAt.kept {K : PySem.W.Frag} {H H' : Hp} {a d c : Addr} {t : Int} {n : Nat} {kn : List (List Int)} {hs : List (Str × List (List Int))} (D : Deck H d c t) (e : Kept d c H H') (h : FiveAt K H a n kn hs) : FiveAt K H' a n kn hs := by
  obtain ⟨k, g, ws, h1, h2, ⟨o, h5, h3⟩, h4⟩ := h
  refine ⟨k, g, ws, Kept.tup D e h1, rowsAt_tk (Tk.kept D e) h2, ⟨o, h5, e _ _ h3 (fun z => by subst z; rw [D.hd] at h3; cases h3) (fun z => by subst z; obtain ⟨_, hc, _⟩ := D.hc; rw [hc] at h3; cases h3)⟩, dpAll_tk (Tk.kept D e) _ _ (noL_hands _) h4⟩
theorem FiveAt.dp {K : PySem.W.Frag} {H : Hp} {a : Addr} {n : Nat} {kn : List (List Int)} {hs : List (Str × List (List Int))} (h : FiveAt K H a n kn hs) : Dp K H (.ref a) (standD 5 n kn hs) := by
  obtain ⟨k, g, ws, h1, ⟨wk, h2, h3⟩, h4, h5⟩ := h
  exact .tup h1 (.cons (.int 5) (.cons (.int n) (.cons (.tup h2 h3) (.cons (.tup h4.sq h5) .nil))))
end OC
set_option Elab.async false
set_option linter.all false
set_option maxRecDepth 100000
set_option maxHeartbeats 2000000
/-! zip of a tuple and a list -/
namespace OC
open PySem PySem.Spec PyProof.Rows L2
/-- the tuple at a and the list at b as they stand at each turn, the items in new pairs -/
def ItzN (K : PySem.W.Frag) (a b : Addr) : It :=
  ⟨fun i H => ∃ (xs ys : List V) (x y : V), SqT K H a xs ∧ SqL K H b ys ∧ xs[i]? = some x ∧ ys[i]? = some y,
    fun i H v H' => ∃ T x y, v = .ref T ∧ H T = none ∧ H' = upd H T (.tup [x, y]) ∧ (∀ xs, SqT K H a xs → xs[i]? = some x) ∧ ∀ ys, SqL K H b ys → ys[i]? = some y,
    fun i H => ∃ xs ys : List V, SqT K H a xs ∧ SqL K H b ys ∧ i ≤ xs.length ∧ i ≤ ys.length ∧ (i = xs.length ∨ i = ys.length)⟩
theorem turn_zipN {P : Program} {w : World} {K : PySem.W.Frag} {elts : List Expr} {kk : Nat} {tpos : Pos} {a b z TI TO i1 i2 : Addr} (D : ZipApart z TI TO i1 i2 a b) :
    Turn P w K (.Tuple elts kk tpos) (ItzN K a b) [z, TI, TO, i1, i2] z (fun i h => IsZip h z TI TO .none ∧ IsTupOf2 h TI (.ref i1) (.ref i2) ∧ (∃ x y, IsTupOf2 h TO x y) ∧ h.IsTupleIter i1 a i ∧ h.IsListIter i2 b i) where
  mem := by simp
  obj := fun i h st c hc => by
    obtain ⟨hz, hTI, ⟨x, y, hTO⟩, ⟨o1, e1, _, d1⟩, ⟨o2, e2, _, d2⟩⟩ := st
    have e' : c = z ∨ c = TI ∨ c = TO ∨ c = i1 ∨ c = i2 := by simpa using hc
    rcases e' with q | q | q | q | q
    · rw [q]; exact ⟨_, hz, fun v q => nomatch q⟩
    · rw [q]; exact ⟨_, hTI, fun v q => nomatch q⟩
    · rw [q]; exact ⟨_, hTO, fun v q => nomatch q⟩
    · rw [q]; exact ⟨o1, e1, fun v q => by rw [d1] at q; cases q⟩
    · rw [q]; exact ⟨o2, e2, fun v q => by rw [d2] at q; cases q⟩
  keep := fun i h h' st k => by
    obtain ⟨hz, hTI, ⟨x, y, hTO⟩, h1, h2⟩ := st
    exact ⟨k z (by simp) _ hz, k TI (by simp) _ hTI, ⟨x, y, k TO (by simp) _ hTO⟩, h1.at fun o q => k i1 (by simp) o q, h2.at fun o q => k i2 (by simp) o q⟩
  item := by
    intro X hP hw hK hc i pins s σ H E I hf st hg
    subst hP hw hK
    obtain ⟨hz, hTI, ⟨x0, y0, hTO⟩, h1, h2⟩ := st
    obtain ⟨xs, ys, x, y, hqx, hqy, hx, hy⟩ := hg
    obtain ⟨its, rv, p, _⟩ := I.tuple hqx
    obtain ⟨its2, rv2, p2, _⟩ := I.list hqy
    obtain ⟨u, hu, ru⟩ := rv.get hx
    obtain ⟨u2, hu2, ru2⟩ := rv2.get hy
    have hzl : z < s.heap.objs.size := Heap.lt_size hz
    have hh : X.A.in1.handled = none := I.ok.hd hc
    refine wpAny_pyNext_zipD2_item (sep_of D) (Draws.tuple hh i1 a D.l1i1 its.toArray) (Draws.list hh i2 b D.l2i2 its2.toArray) hz hTI hTO ⟨h1, p⟩ ⟨h2, p2.isList⟩ ?_ ?_ fun x1 x2 h' tk y1 y2 z' TO' st1' st2' hT hsz hk => ?_
    · have := (List.getElem?_eq_some_iff.mp hu).1
      simpa using this
    · have := (List.getElem?_eq_some_iff.mp hu2).1
      simpa using this
    have e1 : x1 = u := by
      have : its[i]? = some x1 := by simpa using y1
      rw [hu] at this
      exact (Option.some.inj this).symm
    have e2 : x2 = u2 := by
      have : its2[i]? = some x2 := by simpa using y2
      rw [hu2] at this
      exact (Option.some.inj this).symm
    subst e1 e2
    refine ⟨_, rfl, wpAny_letOwnedTupleGo_zip (s := { s with heap := h', toks := tk }) z' fun h'' z'' sb => ?_⟩
    have hT2 : h''.get? s.heap.objs.size = some { cls := .type "tuple", data := .seq #[x1, x2] } := (sb.2 _ (Nat.ne_of_gt hzl)).trans hT
    have new : ObjOk X.prog X.w (upd H s.heap.objs.size (.tup [x, y])) h'' s.heap.objs.size (.tup [x, y]) :=
      ⟨by show 2 ≤ sizeLine; decide, [x1, x2], .cons ru (.cons ru2 .nil), ⟨_, hT2, rfl, _, rfl⟩⟩
    have I1 : Inv X pins σ (upd H s.heap.objs.size (.tup [x, y])) { s with heap := h'', toks := tk } :=
      I.turnedNew (t' := tk) (ch := [z, TI, TO, i1, i2]) (fun c o hb q => (sb.2 c (fun q' => hb (by simp [q']))).trans (hk c o (fun q' => hb (by simp [q'])) (fun q' => hb (by simp [q'])) (fun q' => hb (by simp [q'])) (fun q' => hb (by simp [q'])) q)) hf (Nat.le_refl _) new
    refine ⟨.ref s.heap.objs.size, _, I1, rfl, ⟨_, x, y, rfl, I.hok.fresh (Nat.le_refl _), rfl, fun l hl => by rw [I.tuple_inj hl hqx]; exact hx, fun l hl => by rw [I.list_inj hl hqy]; exact hy⟩, ⟨z'', ?_, ⟨x1, x2, ?_⟩, ?_, ?_⟩, fun c hcm => ?_⟩
    · exact (sb.2 _ D.TIz).trans (hk _ _ D.TIz D.TITO D.TIi1 D.TIi2 hTI)
    · exact (sb.2 _ D.TOz).trans TO'
    · exact st1'.1.at fun o q => (sb.2 _ D.i1z).trans q
    · exact st2'.1.at fun o q => (sb.2 _ D.i2z).trans q
    · have hlt : c < s.heap.objs.size := by
        have e' : c = z ∨ c = TI ∨ c = TO ∨ c = i1 ∨ c = i2 := by simpa using hcm
        rcases e' with q | q | q | q | q
        · rw [q]; exact hzl
        · rw [q]; exact Heap.lt_size hTI
        · rw [q]; exact Heap.lt_size hTO
        · rw [q]; obtain ⟨_, e1, _⟩ := h1; exact Heap.lt_size e1
        · rw [q]; obtain ⟨_, e2, _⟩ := h2; exact Heap.lt_size e2
      rw [upd_ne (Nat.ne_of_lt hlt)]
      exact (hf c hcm).1
  done := by
    intro X hP hw hK hc i pins s σ H E I hf st hg
    subst hP hw hK
    obtain ⟨hz, hTI, ⟨x0, y0, hTO⟩, h1, h2⟩ := st
    obtain ⟨xs, ys, hqx, hqy, le1, le2, hend⟩ := hg
    obtain ⟨its, rv, p, _⟩ := I.tuple hqx
    obtain ⟨its2, rv2, p2, _⟩ := I.list hqy
    have l1 := rv.length
    have l2 := rv2.length
    have hh : X.A.in1.handled = none := I.ok.hd hc
    have sz1 : its.toArray.size = its.length := by simp
    have sz2 : its2.toArray.size = its2.length := by simp
    exact wpAny_pyNext_zipD2_end (sep_of D) (Draws.tuple hh i1 a D.l1i1 its.toArray) (Draws.list hh i2 b D.l2i2 its2.toArray) hz hTI hTO ⟨h1, p⟩ ⟨h2, p2.isList⟩ (by omega) (by omega) (by omega) fun h' tk hk => ⟨rfl, I.turnedL (t' := tk) (ch := [z, TI, TO, i1, i2]) (fun c o hb q =>
      hk c o (fun q' => hb (by simp [q'])) (fun q' => hb (by simp [q'])) (fun q' => hb (by simp [q'])) (fun q' => hb (by simp [q'])) q) hf⟩
  self := fun A i s Q E st h => wpAny_pyIter_zip st.1 h
/-- zip(xs, ys) of a tuple and a list -/
def iZipN (K : PySem.W.Frag) (ta : TA) : TI := fun σ H R => ta σ H fun vs H1 => ∃ a b xs ys, vs = [.ref a, .ref b] ∧ SqT K H1 a xs ∧ SqL K H1 b ys ∧ R (ItzN K a b) H1
theorem pi_zipN {X : Cx} {e e2 : Expr} {ta : TA} {p pos tpos : Pos} {elts : List Expr} {kk : Nat} (hg : Gl X "zip") (hm : X.mg "zip" = none) (ha : PA X [e, e2] ta)
    (hs : starEach [e, e2] X.env = (false, eval e X.env) :: starEach [e2] X.env := by rfl) (hpl : (backTo pos (starEach [e2] X.env)).any (·.1) = false := by rfl) :
    PI X (.Tuple elts kk tpos) (.Call (.Name "zip" p) [e, e2] [] pos) (iZipN X.K ta) := by
  refine ⟨fun pins s σ H R I h => ?_⟩
  refine Call_ (ld_blt I hg hm PyProof.Rows.boot_zip (PyProof.Rows.callWith_type1 (thn (ha.run pos pins s σ H _ I h) fun us s1 ⟨vs, H1, I1, r1, q1⟩ => ?_) hs hpl))
  obtain ⟨a, b, xs, ys, ex, hqx, hqy, q⟩ := q1
  subst ex
  cases r1 with
  | cons r rr =>
    cases rr with
    | cons r' rr =>
      cases rr
      cases r
      cases r'
      have fresh5 : ∀ c, c ∈ [s1.heap.objs.size + 4, s1.heap.objs.size + 2, s1.heap.objs.size + 3, s1.heap.objs.size, s1.heap.objs.size + 1] → FpOk X pins H1 c := fun c hcm => by
        have hle : s1.heap.objs.size ≤ c := by
          have e' : c = s1.heap.objs.size + 4 ∨ c = s1.heap.objs.size + 2 ∨ c = s1.heap.objs.size + 3 ∨ c = s1.heap.objs.size ∨ c = s1.heap.objs.size + 1 := by simpa using hcm
          rcases e' with z | z | z | z | z
          · rw [z]; exact Nat.le_add_right _ _
          · rw [z]; exact Nat.le_add_right _ _
          · rw [z]; exact Nat.le_add_right _ _
          · rw [z]; exact Nat.le_refl _
          · rw [z]; exact Nat.le_add_right _ _
        exact I1.fpOk hle (I1.hok.fresh hle)
      obtain ⟨its, rv, p1, _⟩ := I1.tuple hqx
      obtain ⟨its2, rv2, p2, _⟩ := I1.list hqy
      obtain ⟨o1, ho1, _⟩ := id p1
      refine zip_begins2 (begins_tuple a its.toArray) (begins_list b its2.toArray) (show s1.heap.IsTuple a its.toArray from p1) p2.isList fun h' hz hTI hTO h1 h2 hsz hk => wpAny_pyIter_zip hz ?_
      have I2 : Inv X pins σ H1 { s1 with heap := h' } := I1.kept (t' := s1.toks) hk
      exact ⟨s1.heap.objs.size + 4, [s1.heap.objs.size + 4, s1.heap.objs.size + 2, s1.heap.objs.size + 3, s1.heap.objs.size, s1.heap.objs.size + 1], _, _, H1, rfl, I2, turn_zipN (PySem.W.ktu_apart s1.heap.objs.size a b (Heap.lt_size ho1) p2.lt), ⟨hz, hTI, ⟨_, _, hTO⟩, ⟨_, h1, rfl, rfl⟩, ⟨_, h2, rfl, rfl⟩⟩, fresh5, q⟩
theorem walk_zipN {K : PySem.W.Frag} {a b : Addr} {xs ys : List V} {n : Nat} (hn : n = min xs.length ys.length) : Walk (ItzN K a b) n (fun H => SqT K H a xs ∧ SqL K H b ys) (YPair (fun i => xs[i]?) (fun i => ys[i]?)) where
  goes i H hi q := by
    have hx : i < xs.length := by rw [hn] at hi; exact Nat.lt_of_lt_of_le hi (Nat.min_le_left _ _)
    have hy : i < ys.length := by rw [hn] at hi; exact Nat.lt_of_lt_of_le hi (Nat.min_le_right _ _)
    exact ⟨xs, ys, _, _, q.1, q.2, List.getElem?_eq_getElem hx, List.getElem?_eq_getElem hy⟩
  stops H q := ⟨xs, ys, q.1, q.2, by omega, by omega, by omega⟩
  yields i H v H' _ q y := by
    obtain ⟨T, x, z, ev, nT, eH, gx, gz⟩ := y
    exact ⟨T, x, z, ev, nT, eH, gx xs q.1, gz ys q.2⟩
end OC
set_option Elab.async false
set_option linter.all false
set_option maxRecDepth 100000
set_option maxHeartbeats 4000000
namespace OC
open PySem PySem.Spec PyProof.Rows L2 Lin
/-- the contrary rest, looked for from 0 on -/
theorem ctr_first0 {p : Int} (hF : Fld p) {a : Int} (h0 : 1 ≤ a) (h1 : a < p) : (((List.range p.toNat).map fun (i : Nat) => ((i : Nat) : Int)).filter fun k => decide (k * a % p = 1))[0]? = some (ctr p a) := by
  have ec : (fun k : Int => decide (k * a % p = 1)) = fun b => decide (a * b % p = 1) := by
    funext k
    rw [Int.mul_comm]
  rw [ec]
  have hc := ctr_ok hF h0 h1
  have hh : ctr p a = (((List.range p.toNat).map fun (i : Nat) => ((i : Nat) : Int)).filter fun b => decide (a * b % p = 1)).headD 0 := rfl
  generalize hL : ((List.range p.toNat).map fun (i : Nat) => ((i : Nat) : Int)).filter (fun b => decide (a * b % p = 1)) = L at hh ⊢
  cases L with
  | nil =>
    rw [show ([] : List Int).headD 0 = 0 from rfl] at hh
    rw [hh, Int.mul_zero, Int.zero_emod] at hc
    exact absurd hc.2.2 (by decide)
  | cons x L => rw [hh]; rfl
/-- the first rest above 0 -/
theorem pos_head : ∀ {r : List Int}, (∀ x ∈ r, 0 ≤ x) → fpR r < r.length → (r.filter fun x => decide (x > 0))[0]? = some (r.getD (fpR r) 0)
  | [], _, h => (nomatch h)
  | x :: r, hb, h => by
    by_cases hx : x = 0
    · subst hx
      rw [fpR_zero] at h ⊢
      rw [List.filter_cons_of_neg (by decide), List.getD_cons_succ]
      exact pos_head (fun y hy => hb y (List.mem_cons_of_mem _ hy)) (by simpa using h)
    · have : x > 0 := by have := hb x List.mem_cons_self; omega
      have e : (x :: r).filter (fun x => decide (x > 0)) = x :: r.filter (fun x => decide (x > 0)) := by simp [List.filter_cons, this]
      rw [fpR_nz hx, e]
      rfl
end OC
set_option Elab.async false
set_option linter.all false
set_option maxRecDepth 100000
set_option maxHeartbeats 4000000
/-! a stand whose hands' tuple has no dict, and its rooms by their names -/
namespace OC
open PySem PySem.Spec PyProof.Rows L2
def StandAt (K : PySem.W.Frag) (H : Hp) (a : Addr) (p : Int) (n : Nat) (kn : List (List Int)) (hs : List (Str × List (List Int))) : Prop := ∃ (k g : Addr) (ws : List V), SqT K H a [.int p, .int (n : Int), .ref k, .ref g] ∧ RowsAt K H k kn ∧ TupF H g ws ∧ DpAll K H ws (hs.map handD)
section
variable {K : PySem.W.Frag} {H H' : Hp} {a d c o : Addr} {t p : Int} {n : Nat} {kn : List (List Int)} {hs : List (Str × List (List Int))}
theorem StandAt.same (s : Same H H') (h : StandAt K H a p n kn hs) : StandAt K H' a p n kn hs := by
  obtain ⟨k, g, ws, h1, h2, h3, h4⟩ := h
  exact ⟨k, g, ws, Same.tup s h1, rowsAt_tk (Tk.of s) h2, h3.same s, dpAll_same s _ _ h4⟩
theorem StandAt.kept (D : Deck H d c t) (e : Kept d c H H') (h : StandAt K H a p n kn hs) : StandAt K H' a p n kn hs := by
  obtain ⟨k, g, ws, h1, h2, ⟨o, h5, h3⟩, h4⟩ := h
  refine ⟨k, g, ws, Kept.tup D e h1, rowsAt_tk (Tk.kept D e) h2, ⟨o, h5, e _ _ h3 (fun z => by subst z; rw [D.hd] at h3; cases h3) (fun z => by subst z; obtain ⟨_, hc, _⟩ := D.hc; rw [hc] at h3; cases h3)⟩, dpAll_tk (Tk.kept D e) _ _ (noL_hands _) h4⟩
theorem StandAt.dp (h : StandAt K H a p n kn hs) : Dp K H (.ref a) (standD p n kn hs) := by
  obtain ⟨k, g, ws, h1, ⟨wk, h2, h3⟩, h4, h5⟩ := h
  exact .tup h1 (.cons (.int p) (.cons (.int n) (.cons (.tup h2 h3) (.cons (.tup h4.sq h5) .nil))))
/-- rooms[x] -/
theorem RoomsD.get (h : RoomsD K H o hs) {z : Str × List (List Int)} (mz : z ∈ hs) : ∃ r, DGet H o (.str z.1) (some (.ref r)) ∧ RowsAt K H r z.2 := by
  obtain ⟨kvs, h1, h2⟩ := h
  obtain ⟨r, h3, h4⟩ := h2 z mz
  refine ⟨r, ?_, h4⟩
  have := DGet.k (k := (Sum.inr z.1 : L2.Key)) h1
  rw [h3] at this
  exact this
/-- a hand's room is what it knows with the calls -/
theorem Stand5.own (S : Stand5 p n kn hs) {z : Str × List (List Int)} (mz : z ∈ hs) : plainR p n (kn ++ selR [z.1] hs) = z.2 := by
  rw [sel_one S.nd mz]
  have pz := S.ph z mz
  refine (plain_same S.fld (rowsOk_app S.pk.1 pz.1) pz.1 (fun r hr => ?_) fun r hr => InR.mem (List.mem_append_right _ hr)).trans pz.2
  rcases List.mem_append.mp hr with hr | hr
  · exact S.inn z mz r hr
  · exact InR.mem hr
end
end OC
set_option Elab.async false
set_option linter.all false
set_option maxRecDepth 100000
set_option maxHeartbeats 4000000
/-! max(xs, key=lambda x: x[0]) over a list of new tuples whose first thing is a whole number -/
namespace OC
open PySem PySem.Spec PyProof.Rows L2 LamX
/-- all but the frames' slots is as it was -/
structure Still (fs : List Addr) (h h' : Heap) : Prop where
  keep : ∀ b o, h.get? b = some o → b ∉ fs → h'.get? b = some o
  slot : ∀ b o, h.get? b = some o → ∃ sl, h'.get? b = some { o with slots := sl }
theorem Still.refl (fs : List Addr) (h : Heap) : Still fs h h := ⟨fun _ _ e _ => e, fun _ o e => ⟨o.slots, e⟩⟩
theorem Still.trans {fs : List Addr} {h h1 h2 : Heap} (a : Still fs h h1) (b : Still fs h1 h2) : Still fs h h2 := ⟨fun x o e n => b.keep x o (a.keep x o e n) n, fun x o e => by
  obtain ⟨s1, e1⟩ := a.slot x o e
  obtain ⟨s2, e2⟩ := b.slot x _ e1
  exact ⟨s2, e2⟩⟩
theorem Still.of {fs : List Addr} {h h' : Heap} (k : ∀ b o, h.get? b = some o → h'.get? b = some o) : Still fs h h' := ⟨fun b o e _ => k b o e, fun b o e => ⟨o.slots, k b o e⟩⟩
end OC
set_option Elab.async false
set_option linter.all false
set_option maxRecDepth 100000
set_option maxHeartbeats 2000000
/-! tables of code objects: what stays where a lambda is made; the end with one table and the modules' dict -/
namespace OC
open PySem PySem.Spec PyProof.Rows L2 LamX
/-! ### what stays -/
theorem ExtN.same {H H' : Hp} (e : Same H H') : ExtN H H' := fun b o h _ => e b o h
theorem ExtN.tk {H H' : Hp} (e : ExtN H H') : Tk H H' := fun K a xs h => by
  rcases h with (h | ⟨o, h⟩) | h
  · exact .inl (.inl (e _ _ h fun ps z => by cases z))
  · exact .inl (.inr ⟨o, e _ _ h fun ps z => by cases z⟩)
  · exact .inr h
theorem ExtN.lst {H H' : Hp} (e : ExtN H H') {a : Addr} {xs : List V} (h : H a = some (.lst xs)) : H' a = some (.lst xs) := e _ _ h fun ps z => by cases z
theorem ExtN.tup {H H' : Hp} (e : ExtN H H') {a : Addr} {xs : List V} (h : H a = some (.tup xs)) : H' a = some (.tup xs) := e _ _ h fun ps z => by cases z
/-- all but the deck's two lists and the tables stays -/
def KeptN (d c : Addr) (H H' : Hp) : Prop := ∀ b o, H b = some o → b ≠ d → b ≠ c → (∀ ps, o ≠ .tbl ps) → H' b = some o
theorem KeptN.refl (d c : Addr) (H : Hp) : KeptN d c H H := fun _ _ h _ _ _ => h
theorem KeptN.trans {d c : Addr} {H H1 H2 : Hp} (a : KeptN d c H H1) (b : KeptN d c H1 H2) : KeptN d c H H2 := fun x o h n m t => b x o (a x o h n m t) n m t
theorem KeptN.of {d c : Addr} {H H' : Hp} (a : Kept d c H H') : KeptN d c H H' := fun x o h n m _ => a x o h n m
theorem KeptN.ext {d c : Addr} {H H' : Hp} (a : ExtN H H') : KeptN d c H H' := fun x o h _ _ t => a x o h t
section
variable {T : List (Addr × Str)} {H H' : Hp}
theorem Tabs.same (t : Tabs T H) (e : Same H H') : Tabs T H' := t.ext e
/-- tables stay where all but two lists stays -/
theorem Tabs.kept {d c : Addr} {xs ys : List V} (t : Tabs T H) (hd : H d = some (.lst xs)) (hc : H c = some (.lst ys)) (k : Kept d c H H') : Tabs T H' := fun p hp => by
  obtain ⟨ps, h1, h2, h3⟩ := t p hp
  have nd : ∀ {b : Addr} {o : HO}, H b = some o → (∀ zs, o ≠ .lst zs) → b ≠ d ∧ b ≠ c := fun {b o} e n => ⟨fun z => by
    rw [z, hd] at e
    exact n _ (Option.some.inj e).symm, fun z => by
    rw [z, hc] at e
    exact n _ (Option.some.inj e).symm⟩
  obtain ⟨n1, n2⟩ := nd h1 (fun zs z => by cases z)
  refine ⟨ps, k _ _ h1 n1 n2, h2, fun pos cv hcv => ?_⟩
  obtain ⟨co, e1, e2⟩ := h3 pos cv hcv
  obtain ⟨m1, m2⟩ := nd e2 (fun zs z => by
    unfold CodeO at z
    cases z)
  exact ⟨co, e1, k _ _ e2 m1 m2⟩
end
/-! ### the end -/
end OC
set_option Elab.async false
set_option linter.all false
set_option maxRecDepth 100000
set_option maxHeartbeats 4000000
/-! a def whose code object is known -/
namespace OC
open PySem PySem.Spec PyProof.Rows L2 LamX
/-- a def by name, its code object at c -/
structure DfC (K : PySem.W.Frag) (mg : Str → Option Value) (x : Str) (st : Stmt) (ps : List Str) (c : Addr) : Prop where
  ex : ∃ (f : Addr) (oc : Value) (od an : Option Addr) (kV doc pm ct : Value) (osl : Array (Option Value)),
    K.lookup f = some ⟨oc, od, .func (PySem.W.fnOf x x (defArgs st) (defBody st) (defScope st) .none kV doc pm an (.ref c) ct), osl⟩ ∧ PySem.W.codeIn K (.ref c) x = true ∧ PySem.W.keepIn K (.ref f) = true ∧ mg x = some (.ref f) ∧
    Binds K (PySem.W.fnOf x x (defArgs st) (defBody st) (defScope st) .none kV doc pm an (.ref c) ct) ps []
section
variable {P : Program} {w : World} {K : PySem.W.Frag} {mg : Str → Option Value} {base : Heap}
theorem DfC.ok {x : Str} {st : Stmt} {N ps : List Str} {k : Nat} {c : Addr} {sp : Sp} (D : DfC K mg x st ps c) (S : FnScope N ps (defScope st)) (len : ∀ vs H Q E, sp vs H Q E → vs.length = ps.length)
    (hbody : ∀ (f : Addr) (A : Around) (outer : List Env) (s : Shared) (H : Hp) (vs : List V) (Q : VK) (E : XK), Room k (A.deeper (envOfC x (defScope st) s.heap.objs.size f (.ref c))) → sp vs H Q E →
      ∃ t, PSs (cxOf CX0 P w K mg base N x (defScope st) f (.ref c) A outer s H E).nox (defBody st) t ∧ t { nx := fun _ H' => Q .non H', rt := Q } (start N vs) H) : Ok P w K mg base (k + 1) x ps sp := by
  obtain ⟨f, oc, od, an, kV, doc, pm, ct, osl, lk, hc, hk, hm, hb⟩ := D.ex
  refine ⟨f, _, fn_of (CX := CX0) lk hc S len fun A outer s H vs Q E hr hsp => ?_, hm, hk, hb⟩
  obtain ⟨t, ht, hq⟩ := hbody f A outer s H vs Q E hr hsp
  exact ⟨t, ht.nox, hq⟩
end
end OC
set_option Elab.async false
set_option linter.all false
set_option maxRecDepth 100000
set_option maxHeartbeats 4000000
/-! rooms of parts: a dict whose keys are tuples of names -/
namespace OC
open PySem PySem.Spec PyProof.Rows L2
def pk (q : List Str) : List L2.Key := q.map Sum.inr
/-! ### all choices of some names -/
/-! ### the group's hands, in the stand's order -/
/-! ### the rooms -/
/-- the room of a part -/
def roomR (p : Int) (n : Nat) (kn : List (List Int)) (hs : List (Str × List (List Int))) (q : List Str) : List (List Int) := plainR p n (kn ++ selR q hs)
section
variable {p : Int} {n : Nat} {kn : List (List Int)} {hs : List (Str × List (List Int))}
theorem room_rows (S : Stand5 p n kn hs) (q : List Str) : RowsOk p n (kn ++ selR q hs) := rowsOk_app S.pk.1 (sel_ok S.toR.rm)
theorem room_pf (S : Stand5 p n kn hs) (q : List Str) : PFR p n (roomR p n kn hs q) := PFR.of_plain S.fld (room_rows S q)
theorem room_nil (S : Stand5 p n kn hs) : roomR p n kn hs [] = kn := by
  unfold roomR
  have : selR [] hs = [] := by
    unfold selR
    induction hs with
    | nil => rfl
    | cons x hs ih => simp
  rw [this, List.append_nil]
  exact S.pk.2
end
/-! ### the dict -/
/-- the dict at o tells a room f q by each of the parts ps, in this order -/
structure RoomsT (K : PySem.W.Frag) (H : Hp) (o : Addr) (f : List Str → List (List Int)) (ps : List (List Str)) (kvs : List (List L2.Key × V)) : Prop where
  at_ : H o = some (.dT kvs)
  keys : kvs.map (·.1) = ps.map pk
  val : ∀ q ∈ ps, ∃ r, valV kvs (pk q) = some (.ref r) ∧ RowsAt K H r (f q)
section
variable {K : PySem.W.Frag} {H H' : Hp} {o : Addr} {f : List Str → List (List Int)} {ps : List (List Str)} {kvs : List (List L2.Key × V)}
theorem RoomsT.len (h : RoomsT K H o f ps kvs) : kvs.length = ps.length := by
  have := congrArg List.length h.keys
  rwa [List.length_map, List.length_map] at this
theorem RoomsT.same (h : RoomsT K H o f ps kvs) (s : Same H H') : RoomsT K H' o f ps kvs := ⟨s _ _ h.at_, h.keys, fun q hq => by
  obtain ⟨r, a, b⟩ := h.val q hq
  exact ⟨r, a, b.same s⟩⟩
end
end OC
set_option Elab.async false
set_option linter.all false
set_option maxRecDepth 100000
set_option maxHeartbeats 4000000
/-! d[t]: t any tuple that is known, not just one in the heap -/
set_option Elab.async false
set_option linter.all false
set_option maxRecDepth 100000
set_option maxHeartbeats 4000000
/-! the greatest bound; a def whose code object is known -/
namespace OC
open PySem PySem.Spec PyProof.Rows L2 LamX
/-! ### parts of splits stand in the group's order -/
/-! ### the greatest bound -/
def boundOf (z : Int) (ns : List Int) : Int := z - (ns.sum - z) / ((ns.length : Int) - 1)
/-- the bound of a parting, by how much its parts know -/
def boundG (f : List Str → Int) (ms : List Str) (P : List (List Str)) : Int := boundOf (f ms) (P.map f)
/-- the first of the group's partings with the greatest bound -/
structure BestP (f : List Str → Int) (ms : List Str) (P : List (List Str)) : Prop where
  ex : ∃ m : Nat, (partingsR ms)[m]? = some P ∧ ∀ (j : Nat) (P' : List (List Str)), (partingsR ms)[j]? = some P' → boundG f ms P' ≤ boundG f ms P ∧ (j < m → boundG f ms P' < boundG f ms P)
theorem BestP.uniq {f : List Str → Int} {ms : List Str} {P P' : List (List Str)} (a : BestP f ms P) (b : BestP f ms P') : P = P' := by
  obtain ⟨m, hm, am⟩ := a.ex
  obtain ⟨m', hm', bm⟩ := b.ex
  have h1 := am m' P' hm'
  have h2 := bm m P hm
  rcases Nat.lt_trichotomy m m' with h | h | h
  · have := h2.2 h
    omega
  · subst h
    rw [hm] at hm'
    exact Option.some.inj hm'
  · have := h1.2 h
    omega
theorem BestP.mem {f : List Str → Int} {ms : List Str} {P : List (List Str)} (a : BestP f ms P) : P ∈ partingsR ms := by
  obtain ⟨m, hm, _⟩ := a.ex
  exact List.mem_of_getElem? hm
theorem BestP.le {f : List Str → Int} {ms : List Str} {P P' : List (List Str)} (a : BestP f ms P) (h : P' ∈ partingsR ms) : boundG f ms P' ≤ boundG f ms P := by
  obtain ⟨m, hm, am⟩ := a.ex
  obtain ⟨j, hj, e⟩ := List.getElem_of_mem h
  exact (am j P' (by rw [List.getElem?_eq_getElem hj, e])).1
end OC
set_option Elab.async false
set_option linter.all false
set_option maxRecDepth 100000
set_option maxHeartbeats 4000000
/-! dict() of a list of pairs whose keys are tuples; lists of tuples of names that stand in the heap -/
namespace OC
open PySem PySem.Spec PyProof.Rows L2 PySem.W
/-! ### tuples of names in the heap -/
inductive TxAll (H : Hp) : List V → List (List Str) → Prop
  | nil : TxAll H [] []
  | cons {b : Addr} {q : List Str} {ws : List V} {qs : List (List Str)} : H b = some (.tup (q.map V.str)) → TxAll H ws qs → TxAll H (.ref b :: ws) (q :: qs)
theorem txD_inj {q r : List Str} (h : txD q = txD r) : q = r := by
  unfold txD at h
  injection h with h
  induction q generalizing r with
  | nil => cases r with
    | nil => rfl
    | cons _ _ => cases h
  | cons x q ih => cases r with
    | nil => cases h
    | cons y r =>
      obtain ⟨h1, h2⟩ := List.cons.inj h
      injection h1 with h1
      rw [h1, ih h2]
section
variable {H H' : Hp}
theorem TxAll.same (s : Same H H') : ∀ {ws : List V} {qs : List (List Str)}, TxAll H ws qs → TxAll H' ws qs
  | _, _, .nil => .nil
  | _, _, .cons h t => .cons (s _ _ h) (t.same s)
theorem TxAll.app : ∀ {ws us : List V} {qs rs : List (List Str)}, TxAll H ws qs → TxAll H us rs → TxAll H (ws ++ us) (qs ++ rs)
  | _, _, _, _, .nil, h => h
  | _, _, _, _, .cons h t, g => .cons h (t.app g)
theorem TxAll.len : ∀ {ws : List V} {qs : List (List Str)}, TxAll H ws qs → ws.length = qs.length
  | _, _, .nil => rfl
  | _, _, .cons _ t => by rw [List.length_cons, List.length_cons, t.len]
theorem TxAll.get : ∀ {ws : List V} {qs : List (List Str)} {i : Nat} {v : V}, TxAll H ws qs → ws[i]? = some v → ∃ b q, v = .ref b ∧ qs[i]? = some q ∧ q ∈ qs ∧ H b = some (.tup (q.map V.str))
  | _, _, _, _, .nil, e => by simp at e
  | _, _, 0, _, .cons (b := b) (q := q) h t, e => by
    cases e
    exact ⟨b, q, rfl, rfl, List.mem_cons_self, h⟩
  | _, _, i + 1, v, .cons h t, e => by
    obtain ⟨b, q, e1, e2, e3, e4⟩ := t.get (i := i) (v := v) e
    exact ⟨b, q, e1, e2, List.mem_cons_of_mem _ e3, e4⟩
theorem TxAll.drop : ∀ {ws : List V} {qs : List (List Str)} (k : Nat), TxAll H ws qs → TxAll H (ws.drop k) (qs.drop k)
  | _, _, 0, h => h
  | _, _, _ + 1, .nil => .nil
  | _, _, k + 1, .cons _ t => t.drop k
theorem TxAll.mut {D : Addr} {xs ys : List V} (e : H D = some (.lst xs)) : ∀ {ws : List V} {qs : List (List Str)}, TxAll H ws qs → TxAll (upd H D (.lst ys)) ws qs
  | _, _, .nil => .nil
  | _, _, .cons h t => .cons (by
      rw [upd_ne (fun z => by
        rw [z, e] at h
        cases h)]
      exact h) (t.mut e)
theorem TxAll.dp {K : PySem.W.Frag} : ∀ {ws : List V} {qs : List (List Str)}, TxAll H ws qs → DpAll K H ws (qs.map txD)
  | _, _, .nil => .nil
  | _, _, .cons h t => .cons (.tup (.inl (.inl h)) (dpAll_strs _)) t.dp
theorem TxAll.of : ∀ {ps : List (V × PyData)} {rs : List (List Str)}, (∀ p ∈ ps, ∃ b q, p = (.ref b, txD q) ∧ H b = some (.tup (q.map V.str))) → ps.map Prod.snd = rs.map txD → TxAll H (ps.map Prod.fst) rs
  | [], [], _, _ => .nil
  | [], _ :: _, _, e => by cases e
  | _ :: _, [], _, e => by cases e
  | p :: ps, r :: rs, h, e => by
    rw [List.map_cons, List.map_cons] at e
    obtain ⟨e1, e2⟩ := List.cons.inj e
    obtain ⟨b, q, rfl, hb⟩ := h p List.mem_cons_self
    have : q = r := txD_inj e1
    subst this
    exact .cons hb (TxAll.of (fun p hp => h p (List.mem_cons_of_mem _ hp)) e2)
end
/-! ### dict() -/
end OC
set_option Elab.async false
set_option linter.all false
set_option maxRecDepth 100000
set_option maxHeartbeats 4000000
/-! min of a list of data; the least of the pairs of a number and a parting -/
set_option Elab.async false
set_option linter.all false
set_option maxRecDepth 100000
set_option maxHeartbeats 4000000
/-! tables stay while numbers are drawn; what repr asks of a pair of a number and a parting -/
set_option Elab.async false
set_option linter.all false
set_option maxRecDepth 100000
set_option maxHeartbeats 4000000
/-! the least number of calls: the greatest bound -/
namespace OC
open PySem PySem.Spec PyProof.Rows L2
/-- the greatest of some whole numbers -/
def topR : List Int → Int
  | [] => 0
  | x :: xs => xs.foldl (fun a y => if a < y then y else a) x
theorem topF : ∀ (xs : List Int) (x : Int), (xs.foldl (fun a y => if a < y then y else a) x = x ∨ xs.foldl (fun a y => if a < y then y else a) x ∈ xs) ∧ x ≤ xs.foldl (fun a y => if a < y then y else a) x ∧ ∀ y ∈ xs, y ≤ xs.foldl (fun a y => if a < y then y else a) x
  | [], x => ⟨.inl rfl, Int.le_refl _, fun y hy => (nomatch hy)⟩
  | z :: xs, x => by
    rw [List.foldl_cons]
    obtain ⟨h1, h2, h3⟩ := topF xs (if x < z then z else x)
    generalize xs.foldl (fun a y => if a < y then y else a) (if x < z then z else x) = m at h1 h2 h3
    by_cases c : x < z
    · rw [if_pos c] at h1 h2
      refine ⟨.inr ?_, by omega, fun y hy => ?_⟩
      · rcases h1 with h | h
        · rw [h]; exact List.mem_cons_self
        · exact List.mem_cons_of_mem _ h
      · rcases List.mem_cons.mp hy with rfl | hy
        · exact h2
        · exact h3 y hy
    · rw [if_neg c] at h1 h2
      refine ⟨?_, h2, fun y hy => ?_⟩
      · rcases h1 with h | h
        · exact .inl h
        · exact .inr (List.mem_cons_of_mem _ h)
      · rcases List.mem_cons.mp hy with rfl | hy
        · omega
        · exact h3 y hy
theorem top_mem {xs : List Int} (h : 0 < xs.length) : topR xs ∈ xs := by
  cases xs with
  | nil => exact absurd h (Nat.lt_irrefl _)
  | cons x xs =>
    rcases (topF xs x).1 with e | e
    · exact List.mem_cons.mpr (.inl e)
    · exact List.mem_cons_of_mem _ e
theorem top_le {xs : List Int} : ∀ y ∈ xs, y ≤ topR xs := by
  cases xs with
  | nil => exact fun y hy => (nomatch hy)
  | cons x xs =>
    intro y hy
    rcases List.mem_cons.mp hy with rfl | hy
    · exact (topF xs y).2.1
    · exact (topF xs x).2.2 y hy
theorem top_is {xs : List Int} {m : Int} (h : m ∈ xs) (hm : ∀ y ∈ xs, y ≤ m) : m = topR xs := by
  have h1 := top_le m h
  have h2 := hm _ (top_mem (List.length_pos_of_mem h))
  omega
/-- how few calls bring a group at one -/
def fewR (f : List Str → Int) (ms : List Str) : Int := topR ((partingsR ms).map (boundG f ms))
theorem BestP.few {f : List Str → Int} {ms : List Str} {P : List (List Str)} (a : BestP f ms P) : boundG f ms P = fewR f ms := by
  refine top_is (List.mem_map_of_mem a.mem) fun y hy => ?_
  obtain ⟨P', mP, rfl⟩ := List.mem_map.mp hy
  exact a.le mP
theorem few_le {f : List Str → Int} {ms : List Str} {P : List (List Str)} (h : P ∈ partingsR ms) : boundG f ms P ≤ fewR f ms := top_le _ (List.mem_map_of_mem h)
/-! ### one hand and the others -/
theorem splits_snoc (ns : List Str) (x : Str) : splitsR (ns ++ [x]) = (splitsR ns).flatMap (growR x) := by
  unfold splitsR
  rw [List.foldl_append]
  rfl
theorem grow_new (x : Str) (s : List (List Str)) : s ++ [[x]] ∈ growR x s := by
  unfold growR
  exact List.mem_append_right _ (List.mem_singleton.mpr rfl)
theorem grow_at (x : Str) {s : List (List Str)} {k : Nat} (h : k < s.length) : s.take k ++ ([s.getD k [] ++ [x]] ++ s.drop (k + 1)) ∈ growR x s := by
  unfold growR
  exact List.mem_append_left _ (List.mem_map.mpr ⟨k, List.mem_range.mpr h, rfl⟩)
theorem split_one : ∀ (r : List Str), r ≠ [] → [r.reverse] ∈ splitsR r.reverse
  | [], h => (h rfl).elim
  | x :: r, _ => by
    rw [List.reverse_cons, splits_snoc]
    by_cases e : r = []
    · subst e
      exact List.mem_flatMap.mpr ⟨[], by simp [splitsR], grow_new x []⟩
    · refine List.mem_flatMap.mpr ⟨_, split_one r e, ?_⟩
      have := grow_at x (s := [r.reverse]) (k := 0) (by simp)
      simpa using this
/-- one name apart from the others -/
theorem split_apart : ∀ (r : List Str) (x : Str), r.Nodup → x ∈ r → r.length ≥ 2 → ∃ s ∈ splitsR r.reverse, (s = [[x], r.reverse.filter (fun y => !decide (y = x))] ∨ s = [r.reverse.filter (fun y => !decide (y = x)), [x]])
  | [], _, _, h, _ => (nomatch h)
  | y :: r, x, nd, hx, l => by
    obtain ⟨ny, nd'⟩ := List.nodup_cons.mp nd
    rw [List.reverse_cons, splits_snoc, List.filter_append]
    have r0 : r ≠ [] := fun z => by
      rw [z] at l
      exact absurd l (by simp)
    by_cases e : y = x
    · subst e
      have f1 : r.reverse.filter (fun z => !decide (z = y)) = r.reverse := List.filter_eq_self.mpr fun z hz => by
        have : z ≠ y := fun q => ny (by rw [← q]; simpa using hz)
        simp [this]
      refine ⟨_, List.mem_flatMap.mpr ⟨_, split_one r r0, grow_new y [r.reverse]⟩, .inr ?_⟩
      rw [f1]
      simp
    · have mx : x ∈ r := by
        rcases List.mem_cons.mp hx with h | h
        · exact (e h.symm).elim
        · exact h
      have fy : [y].filter (fun z => !decide (z = x)) = [y] := by simp [e]
      rw [fy]
      by_cases l2 : r.length ≥ 2
      · obtain ⟨s, ms, h⟩ := split_apart r x nd' mx l2
        rcases h with h | h
        · subst h
          have := grow_at y (s := [[x], r.reverse.filter (fun z => !decide (z = x))]) (k := 1) (by simp)
          exact ⟨_, List.mem_flatMap.mpr ⟨_, ms, this⟩, .inl (by simp)⟩
        · subst h
          have := grow_at y (s := [r.reverse.filter (fun z => !decide (z = x)), [x]]) (k := 0) (by simp)
          exact ⟨_, List.mem_flatMap.mpr ⟨_, ms, this⟩, .inr (by simp)⟩
      · have l1 : r.length = 1 := by
          have := List.length_pos_of_mem mx
          omega
        obtain ⟨z, hz⟩ := List.length_eq_one_iff.mp l1
        subst hz
        have : x = z := by simpa using mx
        subst this
        refine ⟨_, List.mem_flatMap.mpr ⟨_, split_one [x] (by simp), grow_new y [[x]]⟩, .inl ?_⟩
        simp
theorem part_apart {ns : List Str} {x : Str} (nd : ns.Nodup) (hx : x ∈ ns) (l : 2 ≤ ns.length) : ∃ P ∈ partingsR ns, (P = [[x], ns.filter (fun y => !decide (y = x))] ∨ P = [ns.filter (fun y => !decide (y = x)), [x]]) := by
  obtain ⟨s, ms, h⟩ := split_apart ns.reverse x ((List.reverse_perm ns).nodup_iff.mpr nd) (by simpa using hx) (by simpa using l)
  rw [List.reverse_reverse] at ms h
  refine ⟨s, partings_mem.mpr ⟨ms, ?_⟩, h⟩
  rcases h with h | h <;> rw [h] <;> simp
/-- a call apart: whoever is apart must be told what it lacks -/
theorem few_apart {f : List Str → Int} {ns : List Str} {x : Str} (nd : ns.Nodup) (hx : x ∈ ns) (l : 2 ≤ ns.length) (mono : f (ns.filter fun y => !decide (y = x)) ≤ f ns) : f ns - f [x] ≤ fewR f ns := by
  obtain ⟨P, mP, h⟩ := part_apart nd hx l
  have e : boundG f ns P = f ns - (f [x] + f (ns.filter fun y => !decide (y = x)) - f ns) := by
    unfold boundG boundOf
    rcases h with h | h
    · subst h
      simp
    · subst h
      simp
      omega
  have := few_le (f := f) mP
  rw [e] at this
  omega
end OC
set_option Elab.async false
set_option linter.all false
set_option maxRecDepth 100000
set_option maxHeartbeats 4000000
/-! what is wanted from each part of a group -/
namespace OC
open PySem PySem.Spec PyProof.Rows L2 PySem.W
/-! ### lists that rise -/
/-! ### the lesser parts -/
/-! ### lists of pairs (part, number) in the heap -/
inductive WAll (H : Hp) : List V → List (List Str × Int) → Prop
  | nil : WAll H [] []
  | cons {t b : Addr} {x : List Str × Int} {ws : List V} {xs : List (List Str × Int)} : H t = some (.tup [.ref b, .int x.2]) → H b = some (.tup (x.1.map V.str)) → WAll H ws xs → WAll H (.ref t :: ws) (x :: xs)
section
variable {H H' : Hp}
theorem WAll.same (s : Same H H') : ∀ {ws : List V} {xs : List (List Str × Int)}, WAll H ws xs → WAll H' ws xs
  | _, _, .nil => .nil
  | _, _, .cons h1 h2 t => .cons (s _ _ h1) (s _ _ h2) (t.same s)
theorem WAll.tk (s : ∀ a xs, H a = some (.tup xs) → H' a = some (.tup xs)) : ∀ {ws : List V} {xs : List (List Str × Int)}, WAll H ws xs → WAll H' ws xs
  | _, _, .nil => .nil
  | _, _, .cons h1 h2 t => .cons (s _ _ h1) (s _ _ h2) (t.tk s)
theorem WAll.app : ∀ {ws us : List V} {xs ys : List (List Str × Int)}, WAll H ws xs → WAll H us ys → WAll H (ws ++ us) (xs ++ ys)
  | _, _, _, _, .nil, h => h
  | _, _, _, _, .cons h1 h2 t, g => .cons h1 h2 (t.app g)
theorem WAll.len : ∀ {ws : List V} {xs : List (List Str × Int)}, WAll H ws xs → ws.length = xs.length
  | _, _, .nil => rfl
  | _, _, .cons _ _ t => by rw [List.length_cons, List.length_cons, t.len]
theorem WAll.get : ∀ {ws : List V} {xs : List (List Str × Int)} {i : Nat} {v : V}, WAll H ws xs → ws[i]? = some v → ∃ t b x, v = .ref t ∧ xs[i]? = some x ∧ H t = some (.tup [.ref b, .int x.2]) ∧ H b = some (.tup (x.1.map V.str))
  | _, _, _, _, .nil, e => by simp at e
  | _, _, 0, _, .cons (t := t) (b := b) (x := x) h1 h2 _, e => by
    cases e
    exact ⟨t, b, x, rfl, rfl, h1, h2⟩
  | _, _, i + 1, v, .cons _ _ t, e => t.get (i := i) (v := v) e
theorem WAll.mut {D : Addr} {zs ys : List V} (e : H D = some (.lst zs)) {ws : List V} {xs : List (List Str × Int)} (h : WAll H ws xs) : WAll (upd H D (.lst ys)) ws xs := h.tk fun a u q => by
  rw [upd_ne (fun z => by
    rw [z, e] at q
    cases q)]
  exact q
end
end OC
set_option Elab.async false
set_option linter.all false
set_option maxRecDepth 100000
set_option maxHeartbeats 4000000
/-! numbers for each of a group: all that come to a total, the greatest first -/
set_option Elab.async false
set_option linter.all false
set_option maxRecDepth 100000
set_option maxHeartbeats 4000000
/-! numbers that come to the greatest bound of a parting and leave none wanting: there are some -/
set_option Elab.async false
set_option linter.all false
set_option maxRecDepth 100000
set_option maxHeartbeats 4000000
/-! the least sum of calls: numbers for each that leave none wanting -/
set_option Elab.async false
set_option linter.all false
set_option maxRecDepth 100000
set_option maxHeartbeats 4000000
/-! numbers that leave none wanting come to the greatest bound of a parting at least -/
set_option Elab.async false
set_option linter.all false
set_option maxRecDepth 100000
set_option maxHeartbeats 4000000
/-! the least sum of calls: at most what the group knows; with one call less some part wants -/
set_option Elab.async false
set_option linter.all false
set_option maxRecDepth 100000
set_option maxHeartbeats 4000000
/-! calls that a group makes: what is known behind a call, and how few are left -/
namespace OC
open PySem PySem.Spec PyProof.Rows L2 PySem.W
theorem InR.sub {p : Int} {rs ts : List (List Int)} {r : List Int} (h : ∀ x ∈ rs, x ∈ ts) (hr : InR p rs r) : InR p ts r := InR.mono (fun x hx => InR.mem (h x hx)) hr
section
variable {p : Int} {n : Nat} {kn : List (List Int)} {hs : List (Str × List (List Int))} {row : List Int}
/-- the hands behind a call -/
def heardH (p : Int) (n : Nat) (row : List Int) (hs : List (Str × List (List Int))) : List (Str × List (List Int)) := hs.map fun h => (h.1, plainR p n (h.2 ++ [row]))
theorem heard_names : (heardH p n row hs).map Prod.fst = hs.map Prod.fst := by
  unfold heardH
  rw [List.map_map]
  rfl
theorem Stand5.heard (S : Stand5 p n kn hs) (hr : RowsOk p n [row]) : Stand5 p n (plainR p n (kn ++ [row])) (heardH p n row hs) where
  fld := S.fld
  p1 := S.p1
  n1 := S.n1
  n8 := S.n8
  pk := PFR.of_plain S.fld (rowsOk_app S.pk.1 hr)
  ph := fun h hh => by
    obtain ⟨x, mx, rfl⟩ := List.mem_map.mp hh
    exact PFR.of_plain S.fld (rowsOk_app (S.ph x mx).1 hr)
  inn := fun h hh r mr => by
    obtain ⟨x, mx, rfl⟩ := List.mem_map.mp hh
    refine (InR.plain S.fld (rowsOk_app (S.ph x mx).1 hr)).mpr ?_
    refine InR.mono (fun z hz => ?_) ((InR.plain S.fld (rowsOk_app S.pk.1 hr)).mp (InR.mem mr))
    rcases List.mem_append.mp hz with hz | hz
    · exact InR.sub (fun y hy => List.mem_append_left _ hy) (S.inn x mx z hz)
    · exact InR.mem (List.mem_append_right _ hz)
  few := by
    unfold heardH
    rw [List.length_map]
    exact S.few
  many := by
    unfold heardH
    rw [List.length_map]
    exact S.many
  srt := by
    rw [heard_names]
    exact S.srt
  nd := by
    rw [heard_names]
    exact S.nd
  nm := by
    rw [heard_names]
    exact S.nm
theorem room_heard (S : Stand5 p n kn hs) (hr : RowsOk p n [row]) (q : List Str) : roomR p n (plainR p n (kn ++ [row])) (heardH p n row hs) q = plainR p n (roomR p n kn hs q ++ [row]) := by
  have F := S.fld
  have S' := S.heard hr
  have oq := room_rows S q
  have ok1 := rowsOk_app S.pk.1 hr
  have up : ∀ z, InR p (kn ++ selR q hs) z → InR p (roomR p n kn hs q ++ [row]) z := fun z hz => InR.sub (fun y hy => List.mem_append_left _ hy) ((InR.plain F oq).mpr hz)
  refine plain_same F (room_rows S' q) (rowsOk_app (room_pf S q).1 hr) (fun r mr => ?_) (fun r mr => ?_)
  · rcases List.mem_append.mp mr with mr | mr
    · refine InR.mono (fun z hz => ?_) ((InR.plain F ok1).mp (InR.mem mr))
      rcases List.mem_append.mp hz with hz | hz
      · exact up z (InR.mem (List.mem_append_left _ hz))
      · exact InR.mem (List.mem_append_right _ hz)
    · obtain ⟨x, mx, a, b⟩ := sel_mem mr
      obtain ⟨y, my, rfl⟩ := List.mem_map.mp mx
      refine InR.mono (fun z hz => ?_) ((InR.plain F (rowsOk_app (S.ph y my).1 hr)).mp (InR.mem b))
      rcases List.mem_append.mp hz with hz | hz
      · exact up z (InR.mem (List.mem_append_right _ (mem_sel my a hz)))
      · exact InR.mem (List.mem_append_right _ hz)
  · have lk : ∀ z, InR p (kn ++ [row]) z → InR p (plainR p n (kn ++ [row]) ++ selR q (heardH p n row hs)) z := fun z hz => InR.sub (fun y hy => List.mem_append_left _ hy) ((InR.plain F ok1).mpr hz)
    rcases List.mem_append.mp mr with mr | mr
    · refine InR.mono (fun z hz => ?_) ((InR.plain F oq).mp (InR.mem mr))
      rcases List.mem_append.mp hz with hz | hz
      · exact lk z (InR.mem (List.mem_append_left _ hz))
      · obtain ⟨y, my, a, b⟩ := sel_mem hz
        refine InR.sub (fun u hu => List.mem_append_right _ (mem_sel (h := (y.1, plainR p n (y.2 ++ [row]))) (List.mem_map_of_mem my) a hu)) ((InR.plain F (rowsOk_app (S.ph y my).1 hr)).mpr (InR.mem (List.mem_append_left _ b)))
    · exact lk r (InR.mem (List.mem_append_right _ mr))
theorem has_room (S : Stand5 p n kn hs) (hr : RowsOk p n [row]) (q : List Str) : hasR p n (roomR p n kn hs q) row = true ↔ InR p (kn ++ selR q hs) row := hasR_plain S.fld (room_rows S q) hr
theorem has_more (S : Stand5 p n kn hs) (hr : RowsOk p n [row]) {q q' : List Str} (h : ∀ x ∈ q, x ∈ q') (e : hasR p n (roomR p n kn hs q) row = true) : hasR p n (roomR p n kn hs q') row = true := by
  rw [has_room S hr] at e ⊢
  refine InR.sub (fun z hz => ?_) e
  rcases List.mem_append.mp hz with hz | hz
  · exact List.mem_append_left _ hz
  · obtain ⟨y, my, a, b⟩ := sel_mem hz
    exact List.mem_append_right _ (mem_sel my (h _ a) b)
/-- how much is known behind a call -/
theorem size_heard (S : Stand5 p n kn hs) (hr : RowsOk p n [row]) (q : List Str) : sizeR p n (plainR p n (kn ++ [row])) (heardH p n row hs) q = sizeR p n kn hs q + (if hasR p n (roomR p n kn hs q) row = true then 0 else 1) - (if hasR p n kn row = true then 0 else 1) := by
  show ((roomR p n (plainR p n (kn ++ [row])) (heardH p n row hs) q).length : Int) - _ = ((roomR p n kn hs q).length : Int) - (kn.length : Int) + _ - _
  rw [room_heard S hr, plain_one_more S.fld (room_pf S q).1 hr, plain_one_more S.fld S.pk.1 hr, (room_pf S q).2, S.pk.2]
  cases hasR p n (roomR p n kn hs q) row <;> cases hasR p n kn row <;> simp <;> omega
end
/-! ### numbers behind a call -/
end OC
set_option Elab.async false
set_option linter.all false
set_option maxRecDepth 100000
set_option maxHeartbeats 4000000
/-! a call behind which the numbers, one less, leave none wanting -/
set_option Elab.async false
set_option linter.all false
set_option maxRecDepth 100000
set_option maxHeartbeats 4000000
/-! defs with one keyword-only parameter that is None where it is not written -/
namespace OC
open PySem PySem.Spec PyProof.Rows L2
structure DfD (K : PySem.W.Frag) (mg : Str → Option Value) (x : Str) (st : Stmt) (ps : List Str) (dvs : List V) : Prop where
  ex : ∃ (f : Addr) (fd : FuncData) (ds : List Value), Fun K x x st f fd ∧ Vals dvs ds ∧ Binds K fd ps ds ∧ mg x = some (.ref f)
structure OkD (P : Program) (w : World) (K : PySem.W.Frag) (mg : Str → Option Value) (base : Heap) (k : Nat) (x : Str) (ps : List Str) (dvs : List V) (sp : Sp) : Prop where
  ex : ∃ (f : Addr) (fd : FuncData) (ds : List Value), FnOk P w K mg base CX0 k f fd ps sp ∧ mg x = some (.ref f) ∧ PySem.W.keepIn K (.ref f) = true ∧ Vals dvs ds ∧ Binds K fd ps ds
section
variable {P : Program} {w : World} {K : PySem.W.Frag} {mg : Str → Option Value} {base : Heap}
theorem DfD.ok {x : Str} {st : Stmt} {N ps : List Str} {dvs : List V} {k : Nat} {sp : Sp} (D : DfD K mg x st ps dvs) (S : FnScope N ps (defScope st)) (len : ∀ vs H Q E, sp vs H Q E → vs.length = ps.length)
    (hbody : ∀ (f : Addr) (cdv : Value) (A : Around) (outer : List Env) (s : Shared) (H : Hp) (vs : List V) (Q : VK) (E : XK), Room k (A.deeper (envOfC x (defScope st) s.heap.objs.size f cdv)) → sp vs H Q E →
      ∃ t, PSs (cxOf CX0 P w K mg base N x (defScope st) f cdv A outer s H E).nox (defBody st) t ∧ t { nx := fun _ H' => Q .non H', rt := Q } (start N vs) H) : OkD P w K mg base (k + 1) x ps dvs sp := by
  obtain ⟨f, fd, ds, F, v, b, g⟩ := D.ex
  exact ⟨f, fd, ds, F.ok S len (hbody f), g, F.kp, v, b⟩
theorem OkD.mono {x : Str} {ps : List Str} {dvs : List V} {j k : Nat} {sp : Sp} (O : OkD P w K mg base j x ps dvs sp) (h : j ≤ k) : OkD P w K mg base k x ps dvs sp := by
  obtain ⟨f, fd, ds, F, r⟩ := O.ex
  exact ⟨f, fd, ds, F.mono h, r⟩
end
end OC
set_option Elab.async false
set_option linter.all false
set_option maxRecDepth 100000
set_option maxHeartbeats 4000000
/-! calls one behind another -/
namespace OC
open PySem PySem.Spec PyProof.Rows L2 PySem.W
/-! ### behind some calls -/
def kAft (p : Int) (n : Nat) (kn : List (List Int)) (cs : List (Str × List Int)) : List (List Int) := cs.foldl (fun k c => plainR p n (k ++ [c.2])) kn
def hAft (p : Int) (n : Nat) (hs : List (Str × List (List Int))) (cs : List (Str × List Int)) : List (Str × List (List Int)) := cs.foldl (fun h c => heardH p n c.2 h) hs
theorem kAft_snoc {p : Int} {n : Nat} {kn : List (List Int)} {cs : List (Str × List Int)} {c : Str × List Int} : kAft p n kn (cs ++ [c]) = plainR p n (kAft p n kn cs ++ [c.2]) := by
  unfold kAft
  rw [List.foldl_append]
  rfl
theorem hAft_snoc {p : Int} {n : Nat} {hs : List (Str × List (List Int))} {cs : List (Str × List Int)} {c : Str × List Int} : hAft p n hs (cs ++ [c]) = heardH p n c.2 (hAft p n hs cs) := by
  unfold hAft
  rw [List.foldl_append]
  rfl
/-- how much is known behind some calls -/
def sAft (p : Int) (n : Nat) (kn : List (List Int)) (hs : List (Str × List (List Int))) (cs : List (Str × List Int)) : List Str → Int := sizeR p n (kAft p n kn cs) (hAft p n hs cs)
/-- calls of the group, each known to its hand behind those ahead, each leaves one call less -/
def StepsR (p : Int) (n : Nat) (kn : List (List Int)) (hs : List (Str × List (List Int))) (ms : List Str) (cs : List (Str × List Int)) : Prop := ∀ i x r, cs[i]? = some (x, r) →
  x ∈ ms ∧ RowsOk p n [r] ∧ hasR p n (roomR p n (kAft p n kn (cs.take i)) (hAft p n hs (cs.take i)) [x]) r = true ∧ fewR (sAft p n kn hs (cs.take (i + 1))) ms = fewR (sAft p n kn hs (cs.take i)) ms - 1
/-- a plan -/
structure PlanR (p : Int) (n : Nat) (kn : List (List Int)) (hs : List (Str × List (List Int))) (ms : List Str) (cs : List (Str × List Int)) : Prop where
  steps : StepsR p n kn hs ms cs
  len : (cs.length : Int) = fewR (sizeR p n kn hs) ms
  zero : fewR (sAft p n kn hs cs) ms = 0
/-! ### the callers one behind another -/
end OC
set_option Elab.async false
set_option linter.all false
set_option maxRecDepth 100000
set_option maxHeartbeats 4000000
/-! plans that hold; no plan is shorter -/
namespace OC
open PySem PySem.Spec PyProof.Rows L2 PySem.W
/-- whether calls of rows are a plan -/
def holdsP (p : Int) (n : Nat) (ms : List Str) : List (List Int) → List (Str × List (List Int)) → List (Str × List Int) → Bool
  | kn, hs, [] => ms.all fun x => decide (sizeR p n kn hs [x] = sizeR p n kn hs ms)
  | kn, hs, c :: cs => decide (c.1 ∈ ms) && (hasR p n (roomR p n kn hs [c.1]) c.2 && holdsP p n ms (plainR p n (kn ++ [c.2])) (heardH p n c.2 hs) cs)
section
variable {p : Int} {n : Nat} {kn : List (List Int)} {hs : List (Str × List (List Int))} {ms : List Str} {y : Str} {row : List Int}
theorem one_le (S : Stand5 p n kn hs) {x : Str} (h : x ∈ ms) : sizeR p n kn hs [x] ≤ sizeR p n kn hs ms := size_mono S.toR fun y hy => by rw [List.mem_singleton.mp hy]; exact h
theorem one_of_few (S : Stand5 p n kn hs) (nd : ms.Nodup) (l2 : 2 ≤ ms.length) (h : fewR (sizeR p n kn hs) ms = 0) : ∀ x ∈ ms, sizeR p n kn hs [x] = sizeR p n kn hs ms := fun x hx => by
  have a := few_apart (f := sizeR p n kn hs) nd hx l2 (size_mono S.toR fun y hy => (List.mem_filter.mp hy).1)
  have b := one_le S hx
  omega
/-- a call that leaves one less is new to the listener -/
theorem call_new (S : Stand5 p n kn hs) (ok : RowsOk p n [row]) (few : fewR (sizeR p n (plainR p n (kn ++ [row])) (heardH p n row hs)) ms = fewR (sizeR p n kn hs) ms - 1) : hasR p n kn row = false := by
  cases e : hasR p n kn row with
  | false => rfl
  | true =>
    have : sizeR p n (plainR p n (kn ++ [row])) (heardH p n row hs) = sizeR p n kn hs := funext fun q => by
      rw [size_heard S ok q, if_pos e, if_pos (has_more S ok (q := []) (q' := q) (fun x hx => (nomatch hx)) (by rw [room_nil S]; exact e))]
      omega
    rw [this] at few
    omega
theorem size_call (S : Stand5 p n kn hs) (ok : RowsOk p n [row]) (my : y ∈ ms) (own : hasR p n (roomR p n kn hs [y]) row = true) (nw : hasR p n kn row = false) : sizeR p n (plainR p n (kn ++ [row])) (heardH p n row hs) ms = sizeR p n kn hs ms - 1 := by
  rw [size_heard S ok ms, nw, if_pos (has_more S ok (q := [y]) (fun x hx => by rw [List.mem_singleton.mp hx]; exact my) own)]
  simp
/-- a parting's bound falls by one at most -/
theorem bound_fall (S : Stand5 p n kn hs) (ok : RowsOk p n [row]) (my : y ∈ ms) (own : hasR p n (roomR p n kn hs [y]) row = true) (nw : hasR p n kn row = false) {P : List (List Str)} (mP : P ∈ partingsR ms) : boundG (sizeR p n kn hs) ms P - 1 ≤ boundG (sizeR p n (plainR p n (kn ++ [row])) (heardH p n row hs)) ms P := by
  have gt := (partings_mem.mp mP).2
  have os := splits_ok (partings_mem.mp mP).1
  have hm := size_call S ok my own nw
  have le : ∀ q : List Str, sizeR p n (plainR p n (kn ++ [row])) (heardH p n row hs) q ≤ sizeR p n kn hs q := fun q => by
    rw [size_heard S ok q, nw]
    split <;> simp
    omega
  have sum : ∀ Q : List (List Str), (Q.map (sizeR p n (plainR p n (kn ++ [row])) (heardH p n row hs))).sum ≤ (Q.map (sizeR p n kn hs)).sum ∧ ((∃ q ∈ Q, y ∈ q) → (Q.map (sizeR p n (plainR p n (kn ++ [row])) (heardH p n row hs))).sum ≤ (Q.map (sizeR p n kn hs)).sum - 1) := fun Q => by
    induction Q with
    | nil => exact ⟨Int.le_refl _, fun ⟨q, hq, _⟩ => (nomatch hq)⟩
    | cons a Q ih =>
      have la := le a
      simp only [List.map_cons, List.sum_cons]
      refine ⟨by omega, fun ⟨q, hq, yq⟩ => ?_⟩
      rcases List.mem_cons.mp hq with rfl | hq
      · have := size_call (ms := q) S ok yq own nw
        omega
      · have := ih.2 ⟨q, hq, yq⟩
        omega
  have sP := (sum P).2 (by
    have := os.pm.mem_iff.mpr my
    obtain ⟨q, hq, yq⟩ := List.mem_flatten.mp this
    exact ⟨q, hq, yq⟩)
  unfold boundG boundOf
  rw [List.length_map, List.length_map, hm]
  have := Int.ediv_le_ediv (show (0 : Int) < (P.length : Int) - 1 by omega) (show (P.map (sizeR p n (plainR p n (kn ++ [row])) (heardH p n row hs))).sum - (sizeR p n kn hs ms - 1) ≤ (P.map (sizeR p n kn hs)).sum - sizeR p n kn hs ms by omega)
  omega
end
section
variable {p : Int} {n : Nat} {kn : List (List Int)} {hs : List (Str × List (List Int))} {ms : List Str} {cs : List (Str × List Int)}
theorem take_snoc {i : Nat} {c : Str × List Int} (g : cs[i]? = some c) : cs.take (i + 1) = cs.take i ++ [c] := by
  rw [List.take_add_one, g]
  rfl
/-- what is told behind the first so many calls of a plan -/
structure AtR (p : Int) (n : Nat) (kn : List (List Int)) (hs : List (Str × List (List Int))) (ms : List Str) (cs : List (Str × List Int)) (i : Nat) : Prop where
  ok : Stand5 p n (kAft p n kn (cs.take i)) (hAft p n hs (cs.take i))
  few : fewR (sAft p n kn hs (cs.take i)) ms = (cs.length : Int) - i
  all : sAft p n kn hs (cs.take i) ms = sizeR p n kn hs ms - i
  bd : ∀ P ∈ partingsR ms, boundG (sizeR p n kn hs) ms P = fewR (sizeR p n kn hs) ms → boundG (sAft p n kn hs (cs.take i)) ms P = (cs.length : Int) - i
theorem PlanR.at (S : Stand5 p n kn hs) (h : PlanR p n kn hs ms cs) : ∀ i, i ≤ cs.length → AtR p n kn hs ms cs i
  | 0, _ => ⟨S, by
      show fewR (sizeR p n kn hs) ms = _
      rw [← h.len]
      omega, by
      show sizeR p n kn hs ms = _
      omega, fun P mP e => by
      show boundG (sizeR p n kn hs) ms P = _
      rw [e, ← h.len]
      omega⟩
  | i + 1, hi => by
    have ih := h.at S i (by omega)
    obtain ⟨x, r, g⟩ : ∃ x r, cs[i]? = some (x, r) := ⟨_, _, List.getElem?_eq_getElem (by omega)⟩
    obtain ⟨mx, ok, own, few⟩ := h.steps i x r g
    have e : sAft p n kn hs (cs.take (i + 1)) = sizeR p n (plainR p n (kAft p n kn (cs.take i) ++ [r])) (heardH p n r (hAft p n hs (cs.take i))) := by
      unfold sAft
      rw [take_snoc g, kAft_snoc, hAft_snoc]
    have e0 : sAft p n kn hs (cs.take i) = sizeR p n (kAft p n kn (cs.take i)) (hAft p n hs (cs.take i)) := rfl
    have f1 := ih.few
    have f2 := ih.all
    rw [e, e0] at few
    rw [e0] at f1 f2
    have nw := call_new ih.ok ok few
    have sz := size_call ih.ok ok mx own nw
    refine ⟨?_, ?_, ?_, fun P mP eP => ?_⟩
    · rw [take_snoc g, kAft_snoc, hAft_snoc]
      exact ih.ok.heard ok
    · rw [e, few]
      omega
    · rw [e, sz]
      omega
    · have b := ih.bd P mP eP
      rw [e0] at b
      have c := bound_fall ih.ok ok mx own nw mP
      have d := few_le (f := sAft p n kn hs (cs.take (i + 1))) mP
      rw [e] at d ⊢
      omega
/-- what is left of a plan holds -/
theorem PlanR.holds (S : Stand5 p n kn hs) (nd : ms.Nodup) (l2 : 2 ≤ ms.length) (h : PlanR p n kn hs ms cs) : ∀ (j i : Nat), i + j = cs.length → holdsP p n ms (kAft p n kn (cs.take i)) (hAft p n hs (cs.take i)) (cs.drop i) = true
  | 0, i, e => by
    have a := h.at S i (by omega)
    rw [List.drop_of_length_le (by omega)]
    unfold holdsP
    refine List.all_eq_true.mpr fun x hx => decide_eq_true (one_of_few a.ok nd l2 ?_ x hx)
    have := a.few
    unfold sAft at this
    omega
  | j + 1, i, e => by
    have ih := h.holds S nd l2 j (i + 1) (by omega)
    have hi : i < cs.length := by omega
    obtain ⟨x, r, g⟩ : ∃ x r, cs[i]? = some (x, r) := ⟨_, _, List.getElem?_eq_getElem hi⟩
    have ec : cs[i] = (x, r) := Option.some.inj ((List.getElem?_eq_getElem hi).symm.trans g)
    rw [List.drop_eq_getElem_cons hi, ec]
    obtain ⟨mx, ok, own, few⟩ := h.steps i x r g
    unfold holdsP
    rw [take_snoc g, kAft_snoc, hAft_snoc] at ih
    simp only [Bool.and_eq_true, decide_eq_true_eq]
    exact ⟨mx, own, ih⟩
end
end OC
set_option Elab.async false
set_option linter.all false
/-! texts sorted: a sorted choice of them is a part in their order -/
set_option Elab.async false
set_option linter.all false
set_option maxRecDepth 100000
set_option maxHeartbeats 4000000
/-! defs whose keyword-only parameter is written; t.count(x) of a tuple of texts -/
namespace OC
open PySem PySem.Spec PyProof.Rows L2
structure OkK (P : Program) (w : World) (K : PySem.W.Frag) (mg : Str → Option Value) (base : Heap) (k : Nat) (x : Str) (ps : List Str) (n : Nat) (ks : List Str) (sp : Sp) : Prop where
  ex : ∃ (f : Addr) (fd : FuncData), FnOk P w K mg base CX0 k f fd ps sp ∧ mg x = some (.ref f) ∧ PySem.W.keepIn K (.ref f) = true ∧ KBn K fd ps n ks (fun us ws => us ++ ws) (fun vs zs => vs ++ zs)
section
variable {P : Program} {w : World} {K : PySem.W.Frag} {mg : Str → Option Value} {base : Heap}
theorem OkK.mono {x : Str} {ps : List Str} {n : Nat} {ks : List Str} {j k : Nat} {sp : Sp} (O : OkK P w K mg base j x ps n ks sp) (h : j ≤ k) : OkK P w K mg base k x ps n ks sp := by
  obtain ⟨f, fd, F, r⟩ := O.ex
  exact ⟨f, fd, F.mono h, r⟩
end
/-! ### t.count(x) -/
end OC
set_option Elab.async false
set_option linter.all false
/-! three hands: their partings in order, the least numbers of calls -/
set_option Elab.async false
set_option linter.all false
/-! numbers of calls pushed along a map of names: the least number of calls of a group and of its image -/
namespace OC
open PySem PySem.Spec PyProof.Rows L2
/-! ### a hand twice -/
section
variable {p : Int} {n : Nat} {kn : List (List Int)} {hs hg : List (Str × List (List Int))} {own fr : Str}
/-- hands and, besides, one hand's room under a further name -/
def CopyOf (hs hg : List (Str × List (List Int))) (own fr : Str) : Prop := ∀ (x : Str) (room : List (List Int)), (x, room) ∈ hg ↔ (x, room) ∈ hs ∨ (x = fr ∧ (own, room) ∈ hs)
theorem CopyOf.heard (C : CopyOf hs hg own fr) (row : List Int) : CopyOf (heardH p n row hs) (heardH p n row hg) own fr := fun x room => by
  unfold heardH
  constructor
  · intro h
    obtain ⟨⟨y, r⟩, m, e⟩ := List.mem_map.mp h
    cases e
    rcases (C y r).mp m with m | ⟨rfl, m⟩
    · exact .inl (List.mem_map.mpr ⟨(y, r), m, rfl⟩)
    · exact .inr ⟨rfl, List.mem_map.mpr ⟨(own, r), m, rfl⟩⟩
  · rintro (h | ⟨rfl, h⟩)
    · obtain ⟨⟨y, r⟩, m, e⟩ := List.mem_map.mp h
      cases e
      exact List.mem_map.mpr ⟨(y, r), (C y r).mpr (.inl m), rfl⟩
    · obtain ⟨⟨y, r⟩, m, e⟩ := List.mem_map.mp h
      cases e
      exact List.mem_map.mpr ⟨(x, r), (C x r).mpr (.inr ⟨rfl, m⟩), rfl⟩
end
end OC
set_option Elab.async false
set_option linter.all false
/-! hands sorted: their names rise -/
set_option Elab.async false
set_option linter.all false
set_option maxRecDepth 100000
set_option maxHeartbeats 4000000
/-! any thing == a text; any thing in a tuple of texts; t != () -/
namespace OC
open PySem PySem.Spec PyProof.Rows L2
open PySem.SeqAt
/-- of a known kind -/
inductive AnyT (K : PySem.W.Frag) (H : Hp) : V → Prop
  | non : AnyT K H .non
  | bl (b : Bool) : AnyT K H (.bl b)
  | int (i : Int) : AnyT K H (.int i)
  | str (x : Str) : AnyT K H (.str x)
  | lst {a : Addr} {xs : List V} : SqL K H a xs → AnyT K H (.ref a)
  | tup {a : Addr} {xs : List V} : SqT K H a xs → AnyT K H (.ref a)
  | dct {a : Addr} {kvs : List (L2.Key × V)} : H a = some (.dK kvs) → AnyT K H (.ref a)
theorem Rep.any {K : PySem.W.Frag} {H : Hp} {bad : Addr → Prop} {v : V} {d : PyData} (r : Rep K H bad v d) : AnyT K H v := by
  cases r with
  | non => exact .non
  | bl b => exact .bl b
  | int i => exact .int i
  | str x => exact .str x
  | lst h _ _ => exact .lst (.inl (.inl h))
  | tup h _ => exact .tup h
  | dct h _ => exact .dct h
end OC
set_option Elab.async false
set_option linter.all false
set_option maxRecDepth 100000
set_option maxHeartbeats 4000000
/-! things that nest, with weights -/
namespace OC
open PySem PySem.Spec PyProof.Rows L2
mutual
/-- numbers to 10 ^ 29 and g, no more than g items, signs that repr shows, no dict but the empty one -/
def nz (g : Nat) : PyData → Bool
  | .none => true
  | .bool _ => true
  | .int i => decide (i.natAbs ≤ 10 ^ 29 + g)
  | .str x => x.cps.toList.all fun c => decide (c < 1000000)
  | .list ds => decide (ds.length ≤ g) && nzAll g ds
  | .tuple ds => decide (ds.length ≤ g) && nzAll g ds
  | .dict ds => ds.isEmpty
def nzAll (g : Nat) : List PyData → Bool
  | [] => true
  | d :: ds => nz g d && nzAll g ds
end
mutual
/-- no less than the signs of repr -/
def wt : PyData → Nat
  | .none => 50
  | .bool _ => 50
  | .int _ => 50
  | .str x => 10 * x.length + 50
  | .list ds => wtAll ds + 50
  | .tuple ds => wtAll ds + 50
  | .dict _ => 50
def wtAll : List PyData → Nat
  | [] => 0
  | d :: ds => wt d + 2 + wtAll ds
end
theorem nzAll_iff {g : Nat} : ∀ {ds : List PyData}, nzAll g ds = true ↔ ∀ d ∈ ds, nz g d = true
  | [] => by simp [nzAll]
  | d :: ds => by simp only [nzAll, Bool.and_eq_true, nzAll_iff (ds := ds), List.forall_mem_cons]
theorem wt_ge : ∀ d : PyData, 50 ≤ wt d
  | .none => by simp [wt]
  | .bool _ => by simp [wt]
  | .int _ => by simp [wt]
  | .str x => by simp [wt]
  | .list ds => by simp [wt]
  | .tuple ds => by simp [wt]
  | .dict _ => by simp [wt]
theorem wtAll_len : ∀ xs : List PyData, 52 * xs.length ≤ wtAll xs
  | [] => Nat.le_refl _
  | d :: xs => by
    have := wtAll_len xs
    have := wt_ge d
    rw [List.length_cons, wtAll]
    omega
theorem wtAll_mem : ∀ {xs : List PyData} {d : PyData}, d ∈ xs → wt d + 2 ≤ wtAll xs
  | x :: xs, d, h => by
    rw [wtAll]
    rcases List.mem_cons.mp h with rfl | h
    · omega
    · have := wtAll_mem h
      omega
/-- a thing's weight, depth and numbers -/
structure Thg (g B k : Nat) (d : PyData) : Prop where
  n : nz g d = true
  w : wt d ≤ B
  k : d.depth ≤ k
mutual
theorem nz_mono {g g' : Nat} (hg : g ≤ g') : ∀ (d : PyData), nz g d = true → nz g' d = true
  | .none, _ => by simp [nz]
  | .bool _, _ => by simp [nz]
  | .int i, h => by
    have : i.natAbs ≤ 10 ^ 29 + g := by simpa only [nz, decide_eq_true_eq] using h
    simp only [nz]
    exact decide_eq_true (by omega)
  | .str x, h => by simpa [nz] using h
  | .list ds, h => by
    simp only [nz, Bool.and_eq_true, decide_eq_true_eq] at h ⊢
    exact ⟨Nat.le_trans h.1 hg, nzAll_mono hg ds h.2⟩
  | .tuple ds, h => by
    simp only [nz, Bool.and_eq_true, decide_eq_true_eq] at h ⊢
    exact ⟨Nat.le_trans h.1 hg, nzAll_mono hg ds h.2⟩
  | .dict ds, h => by simpa [nz] using h
theorem nzAll_mono {g g' : Nat} (hg : g ≤ g') : ∀ (ds : List PyData), nzAll g ds = true → nzAll g' ds = true
  | [], _ => by simp [nzAll]
  | d :: ds, h => by
    have h' : nz g d = true ∧ nzAll g ds = true := by simpa [nzAll] using h
    simp only [nzAll, Bool.and_eq_true]
    exact ⟨nz_mono hg d h'.1, nzAll_mono hg ds h'.2⟩
end
theorem Thg.mono {g g' B B' k k' : Nat} {d : PyData} (h : Thg g B k d) (hg : g ≤ g') (hB : B ≤ B') (hk : k ≤ k') : Thg g' B' k' d := ⟨nz_mono hg d h.n, Nat.le_trans h.w hB, Nat.le_trans h.k hk⟩
theorem depth_all {k : Nat} : ∀ {ds : List PyData}, PyData.depthAll ds ≤ k ↔ ∀ d ∈ ds, d.depth ≤ k
  | [] => by simp [PyData.depthAll]
  | d :: ds => by
    simp only [PyData.depthAll, List.forall_mem_cons, ← depth_all (ds := ds)]
    omega
theorem Thg.tup {g B k : Nat} {ds : List PyData} (h : Thg g B k (.tuple ds)) : (∀ d ∈ ds, nz g d = true) ∧ wtAll ds + 50 ≤ B ∧ ∃ k', k = k' + 1 ∧ ∀ d ∈ ds, d.depth ≤ k' := by
  refine ⟨nzAll_iff.mp (by have := h.n; simp only [nz, Bool.and_eq_true] at this; exact this.2), by have := h.w; rw [wt] at this; exact this, ?_⟩
  have := h.k
  simp only [PyData.depth] at this
  cases k with
  | zero => omega
  | succ k => exact ⟨k, rfl, depth_all.mp (by omega)⟩
def itemsD : PyData → List PyData
  | .tuple ds => ds
  | _ => []
theorem Thg.items {g B k : Nat} {d : PyData} (h : Thg g B k d) : 52 * (itemsD d).length ≤ B ∧ ∀ e ∈ itemsD d, Thg g B k e := by
  cases d with
  | tuple ds =>
    obtain ⟨h1, h2, k', rfl, h3⟩ := h.tup
    have := wtAll_len ds
    exact ⟨by show 52 * ds.length ≤ B; omega, fun e he => ⟨h1 e he, by have := wtAll_mem (show e ∈ ds from he); omega, Nat.le_succ_of_le (h3 e he)⟩⟩
  | _ => exact ⟨Nat.zero_le _, fun e he => (nomatch he)⟩
end OC
set_option Elab.async false
set_option linter.all false
set_option maxRecDepth 100000
set_option maxHeartbeats 4000000
/-! rising things; partings and things that are none -/
namespace OC
open PySem PySem.W PySem.Spec PyProof.Rows L2
def rLtD (K : PySem.W.Frag) : R2 := fun x y H Q => ∃ d e, Dp K H x d ∧ Dp K H y e ∧ alike d e = true ∧ d ≠ .none ∧ d.depth ≤ 60 ∧ Q (.bl (dataLt d e)) H
theorem op_ltD {X : Cx} (hu : X.A.units + 64 < cLine) : OpR X (compareOp .Lt) (rLtD X.K) := by
  intro pins s σ H x y v u Q I rx ry h
  obtain ⟨d, e, hd, he, al, ne, dp, q⟩ := h
  obtain ⟨as, r1⟩ := Dp.reads I d x v hd rx
  obtain ⟨bs, r2⟩ := Dp.reads I e y u he ry
  exact lt_data r1 r2 al ne (by omega) ⟨.bl _, H, I, rfl, q⟩
/-- each less than the next -/
def risD (ds : List PyData) : Bool := (List.zipWith dataLt ds (ds.drop 1)).all id
theorem cut1 (xs : List V) : cutV xs (some 1) none = xs.drop 1 := by
  cases xs with
  | nil => unfold cutV; simp
  | cons x xs => exact cut_from (by decide) (by simp; omega)
end OC
set_option Elab.async false
set_option linter.all false
set_option maxRecDepth 100000
set_option maxHeartbeats 2000000
/-! classes of errors of one's own, by name; a caught one asked after; a def that catches what a lambda raises -/
namespace OC
open PySem PySem.Spec PyProof.Rows L2
/-- where the class of this name stands -/
def adr (mg : Str → Option Value) (x : Str) : Addr := match mg x with | some (.ref a) => a | _ => 0
theorem adr_of {mg : Str → Option Value} {x : Str} {C : Addr} (h : mg x = some (.ref C)) : adr mg x = C := by
  unfold adr
  rw [h]
end OC
set_option Elab.async false
set_option linter.all false
set_option maxRecDepth 100000
set_option maxHeartbeats 4000000
/-! what a parting is: parts that rise, their names all of the group -/
namespace OC
open PySem PySem.Spec PyProof.Rows L2 PySem.W
def sl (a b : Str) : Prop := a.cps.toList < b.cps.toList
theorem sl_trans {a b c : Str} (h1 : sl a b) (h2 : sl b c) : sl a c := List.lt_trans h1 h2
theorem ris_cons2 (a b : PyData) (l : List PyData) : risD (a :: b :: l) = (dataLt a b && risD (b :: l)) := by
  unfold risD
  simp
theorem ris_iff {α : Type} {f : α → PyData} {R : α → α → Prop} (tr : ∀ a b c, R a b → R b c → R a c) : ∀ {l : List α}, (l.Pairwise fun a b => (dataLt (f a) (f b) = true ↔ R a b)) → (risD (l.map f) = true ↔ l.Pairwise R)
  | [], _ => by simp [risD]
  | [a], _ => by simp [risD]
  | a :: b :: l, h => by
    obtain ⟨h1, h2⟩ := List.pairwise_cons.mp h
    have ih := ris_iff tr h2
    rw [List.map_cons] at ih
    rw [List.map_cons, List.map_cons, ris_cons2, Bool.and_eq_true, h1 b List.mem_cons_self, ih]
    constructor
    · rintro ⟨x, y⟩
      refine List.pairwise_cons.mpr ⟨fun c hc => ?_, y⟩
      rcases List.mem_cons.mp hc with rfl | hc
      · exact x
      · exact tr _ _ _ x ((List.pairwise_cons.mp y).1 c hc)
    · intro z
      obtain ⟨x, y⟩ := List.pairwise_cons.mp z
      exact ⟨x b List.mem_cons_self, y⟩
theorem pw_all {α : Type} {R : α → α → Prop} (h : ∀ a b, R a b) : ∀ l : List α, l.Pairwise R
  | [] => .nil
  | a :: l => .cons (fun b _ => h a b) (pw_all h l)
theorem lt_strs (a b : Str) : dataLt (.str a) (.str b) = true ↔ sl a b := by
  rw [dataLt_str, decide_eq_true_iff]
  exact Iff.rfl
theorem ris_strs (q : List Str) : risD (q.map PyData.str) = true ↔ q.Pairwise sl :=
  ris_iff (R := sl) (fun _ _ _ => sl_trans) (pw_all lt_strs q)
end OC
set_option Elab.async false
set_option linter.all false
set_option maxRecDepth 100000
set_option maxHeartbeats 4000000
/-! classes of one's own and their methods, by name -/
namespace OC
open PySem PySem.Spec PyProof.Rows L2
structure ClsN (K : PySem.W.Frag) (mg : Str → Option Value) (x : Str) : Prop where
  g : mg x = some (.ref (adr mg x))
  cl : Cls K (adr mg x)
  mkk : PySem.W.makesIn K (adr mg x) = true
  kp : PySem.W.keepIn K (.ref (adr mg x)) = true
/-- a method of the class c: m, by its full name q -/
structure DfM (K : PySem.W.Frag) (mg : Str → Option Value) (c m q : Str) (st : Stmt) (ps : List Str) (dvs : List V) : Prop where
  ex : ∃ (f : Addr) (fd : FuncData) (ds : List Value), Fun K m q st f fd ∧ Vals dvs ds ∧ Binds K fd ps ds ∧ Meth K (adr mg c) m f
structure OkM (P : Program) (w : World) (K : PySem.W.Frag) (mg : Str → Option Value) (base : Heap) (k : Nat) (c m : Str) (ps : List Str) (dvs : List V) (sp : Sp) : Prop where
  ex : ∃ (f : Addr) (fd : FuncData) (ds : List Value), FnOk P w K mg base CX0 k f fd ps sp ∧ Meth K (adr mg c) m f ∧ Vals dvs ds ∧ Binds K fd ps ds
section
variable {P : Program} {w : World} {K : PySem.W.Frag} {mg : Str → Option Value} {base : Heap}
theorem DfM.ok {c m q : Str} {st : Stmt} {N ps : List Str} {dvs : List V} {k : Nat} {sp : Sp} (D : DfM K mg c m q st ps dvs) (S : FnScope N ps (defScope st)) (len : ∀ vs H Q E, sp vs H Q E → vs.length = ps.length)
    (hbody : ∀ (f : Addr) (cdv : Value) (A : Around) (outer : List Env) (s : Shared) (H : Hp) (vs : List V) (Q : VK) (E : XK), Room k (A.deeper (envOfC q (defScope st) s.heap.objs.size f cdv)) → sp vs H Q E →
      ∃ t, PSs (cxOf CX0 P w K mg base N q (defScope st) f cdv A outer s H E).nox (defBody st) t ∧ t { nx := fun _ H' => Q .non H', rt := Q } (start N vs) H) : OkM P w K mg base (k + 1) c m ps dvs sp := by
  obtain ⟨f, fd, ds, F, v, b, g⟩ := D.ex
  exact ⟨f, fd, ds, F.ok S len (hbody f), g, v, b⟩
theorem OkM.mono {c m : Str} {ps : List Str} {dvs : List V} {j k : Nat} {sp : Sp} (O : OkM P w K mg base j c m ps dvs sp) (h : j ≤ k) : OkM P w K mg base k c m ps dvs sp := by
  obtain ⟨f, fd, ds, F, r⟩ := O.ex
  exact ⟨f, fd, ds, F.mono h, r⟩
end
section
variable {X : Cx} {c m : Str} {ps : List Str} {dvs : List V} {k : Nat} {sp : Sp}
/-- o.m(e, ..) -/
theorem pe_methO {pl : Sem Bool} {o e : Expr} {es : List Expr} {ta : TE} {t : TA} {apos pos : Pos} (O : OkM X.prog X.w X.K X.mg X.base k c m ps dvs sp) (C : ClsN X.K X.mg c) (hr : Room k X.A) (he : PE X o ta) (ha : PA X (e :: es) t)
    (hst : starEach (e :: es) X.env = (false, eval e X.env) :: starEach es X.env := by rfl) (hpl : (backTo pos (starEach es X.env)).any (·.1) = false := by rfl)
    (ht : eval (.Call (.Attribute o m apos) (e :: es) [] pos) X.env = (do
      let ov ← eval o X.env
      standAt apos.atName
      let (f, first) ← holding [ov] (getMethod ov m pl)
      callWith pos f first (backTo pos (starEach (e :: es) X.env)) (backToKw pos (keywordEach [] X.env))) := by rfl) :
    PE X (.Call (.Attribute o m apos) (e :: es) [] pos) (tMeth (adr X.mg c) m sp dvs E0 ta t) := by
  obtain ⟨f, fd, ds, F, g, v, b⟩ := O.ex
  exact pe_meth he C.cl g F hr b v pass0 ha hst hpl ht
/-- o.m() -/
theorem pe_methO0 {pl : Sem Bool} {o : Expr} {ta : TE} {apos pos : Pos} (O : OkM X.prog X.w X.K X.mg X.base k c m ps dvs sp) (C : ClsN X.K X.mg c) (hr : Room k X.A) (he : PE X o ta)
    (ht : eval (.Call (.Attribute o m apos) [] [] pos) X.env = (do
      let ov ← eval o X.env
      standAt apos.atName
      let (f, first) ← holding [ov] (getMethod ov m pl)
      callWith pos f first (backTo pos (starEach [] X.env)) (backToKw pos (keywordEach [] X.env))) := by rfl) :
    PE X (.Call (.Attribute o m apos) [] [] pos) (tMeth (adr X.mg c) m sp dvs E0 ta tNil) := by
  obtain ⟨f, fd, ds, F, g, v, b⟩ := O.ex
  exact pe_meth0 he C.cl g F hr b v pass0 ht
/-- C(e, ..) -/
theorem pe_makeO {e : Expr} {es : List Expr} {t : TA} {p pos : Pos} (O : OkM X.prog X.w X.K X.mg X.base k c "__init__" ps dvs sp) (C : ClsN X.K X.mg c) (hr : Room (k + 1) X.A) (hg : Gl X c) (ha : PA X (e :: es) t) (hdb : (c == ("__debug__" : Str)) = false := by decide)
    (he : starEach (e :: es) X.env = (false, eval e X.env) :: starEach es X.env := by rfl) (hpl : (backTo pos (starEach es X.env)).any (·.1) = false := by rfl) :
    PE X (.Call (.Name c p) (e :: es) [] pos) (tMake (adr X.mg c) sp dvs E0 t) := by
  obtain ⟨f, fd, ds, F, g, v, b⟩ := O.ex
  exact pe_make ⟨C.mkk, g.at_, g.fn, C.kp⟩ F hr hg C.g b v pass0 ha hdb he hpl
end
/-- a method whose keyword-only parameters are written -/
structure OkMK (P : Program) (w : World) (K : PySem.W.Frag) (mg : Str → Option Value) (base : Heap) (k : Nat) (c m : Str) (ps : List Str) (n : Nat) (ks : List Str) (sp : Sp) : Prop where
  ex : ∃ (f : Addr) (fd : FuncData), FnOk P w K mg base CX0 k f fd ps sp ∧ Meth K (adr mg c) m f ∧ KBn K fd ps n ks (fun us ws => us ++ ws) (fun vs zs => vs ++ zs)
section
variable {P : Program} {w : World} {K : PySem.W.Frag} {mg : Str → Option Value} {base : Heap}
theorem OkMK.mono {c m : Str} {ps : List Str} {n : Nat} {ks : List Str} {j k : Nat} {sp : Sp} (O : OkMK P w K mg base j c m ps n ks sp) (h : j ≤ k) : OkMK P w K mg base k c m ps n ks sp := by
  obtain ⟨f, fd, F, r⟩ := O.ex
  exact ⟨f, fd, F.mono h, r⟩
end
/-- x(e, .., *y), x a local name that holds a def -/
structure HeldR (P : Program) (w : World) (K : PySem.W.Frag) (mg : Str → Option Value) (base : Heap) (k : Nat) (f : Addr) (sp : Sp) : Prop where
  ex : FnR P w K mg base CX0 k f sp
  kp : PySem.W.keepIn K (.ref f) = true
def tCallLS (P : Program) (w : World) (K : PySem.W.Frag) (mg : Str → Option Value) (base : Heap) (i k : Nat) (t : TA) : TE := fun σ H Q => ∃ (f : Addr) (sp : Sp), σ[i]? = some (some (.ref f)) ∧ HeldR P w K mg base k f sp ∧ t σ H fun vs H1 => sp vs H1 Q E0
section
variable {X : Cx} {k i : Nat} {x : Str} {e : Expr} {es : List Expr} {t : TA} {p pos : Pos}
theorem pe_callLS (hr : Room k X.A) (hN : X.N[i]? = some x) (hv : Vis X.env.scope x) (ha : PA X (e :: es) t)
    (hdb : (x == ("__debug__" : Str)) = false := by decide) (hcd : (x == ("__classdict__" : Str)) = false := by decide)
    (he : starEach (e :: es) X.env = (false, eval e X.env) :: starEach es X.env := by rfl) (hst : (backTo pos (starEach es X.env)).any (·.1) = true := by rfl) :
    PE X (.Call (.Name x p) (e :: es) [] pos) (tCallLS X.prog X.w X.K X.mg X.base i k t) := by
  refine ⟨fun pins s σ H Q I h => ?_⟩
  obtain ⟨f, sp, hs, ⟨F, hk⟩, ht⟩ := h
  refine wpAny_Call_Name_kw (thn ((pe_var (pos := p) hN hv hdb hcd).run pins s σ H (fun v H1 => v = .ref f ∧ H1 = H) I ⟨.ref f, hs, rfl, rfl⟩) fun u s1 ⟨v, H1, I1, r1, q1⟩ => ?_)
  obtain ⟨rfl, rfl⟩ := q1
  cases r1
  refine PySem.W.callWith_S2 (h₀ := X.base) I.ok.mod.kin hk (thn (ha.run pos pins s1 σ _ _ I1 ht) fun us s2 ⟨vs, H2, I2, r, q⟩ => ⟨I2.kIn, ?_⟩) he hst
  exact wpAny_call (run_fnR F hr pass0 I2 r q)
end
theorem OkM.held {P : Program} {w : World} {K : PySem.W.Frag} {mg : Str → Option Value} {base : Heap} {k : Nat} {x : Str} {ps : List Str} {sp : Sp} (O : Ok P w K mg base k x ps sp) : ∃ f, mg x = some (.ref f) ∧ HeldR P w K mg base k f sp := by
  obtain ⟨f, fd, F, g, kp, b⟩ := O.ex
  refine ⟨f, g, ?_, kp⟩
  have := F.raw b .nil
  exact this.imp fun vs H Q E h => by rw [List.append_nil]; exact h
/-! ### len(x) of an instance whose class has a __len__ of its own -/
def rLenOwn (C : Addr) (sp : Sp) : List V → Hp → VK → Prop := fun xs H Q => ∃ a dx fs, xs = [V.ref a] ∧ H a = some (.ins C dx fs) ∧ sp [.ref a] H (fun z H' => ∃ n : Nat, z = .int n ∧ n ≤ 1000 ∧ Q z H') E0
theorem call_lenOwn {X : Cx} {C g : Addr} {n : Nat} {sp : Sp} (hs : PySem.W.findIn X.K (.ref C) "__len__" = some (some (.ref g))) (hf : PySem.W.isFn X.K (.ref g) = true) (F : FnR X.prog X.w X.K X.mg X.base CX0 n g sp) (hr : Room (n + 1) X.A) : CallR X (.builtin "len") (rLenOwn C sp) := by
  intro pins s σ H xs us Q I r h
  obtain ⟨a, dx, fs, rfl, ha, q⟩ := h
  obtain ⟨u, rfl, ru⟩ := r.one
  cases (show u = Value.ref a from ru)
  obtain ⟨mA, O, _⟩ := ins_get I.hok ha
  obtain ⟨od, J, _⟩ := O.look
  have hr1 : Room n X.A.in1 := Room.in1 hr
  refine Calls.call_function_entry kind_len plain_len entry_len (args_len1 _) ?_
  unfold Builtin.«len»
  refine wpAny_bind (m := oneArg "len" _) (wpAny_pure ?_)
  refine wpAny_bind (m := callSpecial? (.ref a) (Str.ofString "__len__")) (PySem.W.special_fn I.kIn J hs (beq_iff_eq.mp hf) (wpAny_mono (wpAny_call (SlX.run_at (us := [.ref a]) (ws := [.ref a]) F hr1 I.env0.in1 pass0 I (.cons rfl .nil) q)) (fun w s' z => ?_) fun _ _ x => x))
  obtain ⟨z', H', I', rz, m, ei, hm, qz⟩ := z
  subst ei
  obtain ⟨t, e⟩ := (show ∃ t, w = Value.int (m : Int) t from rz)
  cases e
  refine wpAny_bind (wpAny_holding (wpAny_pure ?_))
  refine wpAny_bind (wpAny_letGo ?_)
  show wpAny _ _ (if ((m : Nat) : Int) < 0 then _ else _) _ _ _
  rw [if_neg (by omega)]
  show wpAny _ _ (if ((m : Nat) : Int) ≥ 2 ^ 63 then _ else _) _ _ _
  rw [if_neg (by omega)]
  exact wpAny_bind (wpAny_mkInt (wpAny_pure ⟨_, rfl, .int m, H', I'.tok _, ⟨_, rfl⟩, qz⟩))
theorem call_lenM {X : Cx} {c : Str} {n : Nat} {ps : List Str} {sp : Sp} (O : OkM X.prog X.w X.K X.mg X.base n c "__len__" ps [] sp) (hr : Room (n + 1) X.A) : CallR X (.builtin "len") (rLenOwn (adr X.mg c) sp) := by
  obtain ⟨f, fd, ds, F, g, v, b⟩ := O.ex
  have R := F.raw b v
  exact call_lenOwn g.at_ g.fn (R.imp (sp' := sp) fun vs H Q E h => by rw [List.append_nil]; exact h) hr
/-! ### what the end tells of classes and methods -/
section
variable {K : PySem.W.Frag} {h : Heap} {mg : Str → Option Value} {x : Str} {C : Addr}
theorem clsN_of (X : K.In h) (G : h.Ns mainGlobals mg) (a : PySem.W.nsIn K mainGlobals x = some (some (.ref C))) (pg : PySem.W.plainGet K C Str.empty = true) (hd : PySem.W.hasDictIn K C = true) (po : PySem.W.plainOver K C = true)
    (sa : PySem.W.findIn K (.ref C) "__setattr__" = some (some (.builtin "object.__setattr__"))) (mk : PySem.W.makesIn K C = true) (kp : PySem.W.keepIn K (.ref C) = true) : ClsN K mg x := by
  have g := PySem.W.mg_of X G a
  have e := adr_of g
  refine ⟨by rw [e]; exact g, ?_, ?_, ?_⟩ <;> rw [e]
  · exact ⟨pg, hd, po, sa⟩
  · exact mk
  · exact kp
theorem noA_of (X : K.In h) (G : h.Ns mainGlobals mg) (a : PySem.W.nsIn K mainGlobals x = some (some (.ref C))) {f : Str} (n : PySem.W.findIn K (.ref C) f = some none) : NoAttr K (adr mg x) f := by
  rw [adr_of (PySem.W.mg_of X G a)]
  exact n
theorem dfM_of {m q : Str} {st : Stmt} {ps : List Str} {f : Addr} {oc : Value} {od an : Option Addr} {osl : Array (Option Value)} {kV doc pm cdv ct : Value} (X : K.In h) (G : h.Ns mainGlobals mg)
    (a : PySem.W.nsIn K mainGlobals x = some (some (.ref C))) (fi : PySem.W.findIn K (.ref C) m = some (some (.ref f))) (fn : PySem.W.isFn K (.ref f) = true)
    (l : K.lookup f = some ⟨oc, od, .func (PySem.W.fnOf m q (defArgs st) (defBody st) (defScope st) .none kV doc pm an cdv ct), osl⟩)
    (c : PySem.W.codeIn K cdv q = true) (k : PySem.W.keepIn K (.ref f) = true)
    (hb : ∀ (kV doc pm : Value) (an : Option Addr) (cdv ct : Value) (us : List Value), us.length = ps.length → bindArgs (PySem.W.fnOf m q (defArgs st) (defBody st) (defScope st) .none kV doc pm an cdv ct) ⟨us, []⟩ = pure (ps.zip us)) : DfM K mg x m q st ps [] := by
  have F := fun_mk (st := st) l c k
  refine ⟨f, _, [], F, .nil, F.binds hb, ?_⟩
  rw [adr_of (PySem.W.mg_of X G a)]
  exact ⟨fi, fn, k⟩
theorem dfMD_of {m q y : Str} {st : Stmt} {ps : List Str} {n : Nat} {f D : Addr} {oc : Value} {od an : Option Addr} {osl : Array (Option Value)} {kV doc pm cdv ct : Value} (X : K.In h) (G : h.Ns mainGlobals mg)
    (a : PySem.W.nsIn K mainGlobals x = some (some (.ref C))) (fi : PySem.W.findIn K (.ref C) m = some (some (.ref f))) (fn : PySem.W.isFn K (.ref f) = true)
    (l : K.lookup f = some ⟨oc, od, .func (PySem.W.fnOf m q (defArgs st) (defBody st) (defScope st) .none kV doc pm an cdv ct), osl⟩)
    (c : PySem.W.codeIn K cdv q = true) (k : PySem.W.keepIn K (.ref f) = true) (hk : kV = .ref D) (hd : PySem.W.nsIn K D y = some (some .none))
    (hb : ∀ (D : Addr) (doc pm : Value) (an : Option Addr) (cdv ct : Value) (us : List Value), us.length = n → KwChain D [(y, Value.none)] (bindArgs (PySem.W.fnOf m q (defArgs st) (defBody st) (defScope st) .none (.ref D) doc pm an cdv ct) ⟨us, []⟩) (ps.zip (us ++ [Value.none])))
    (hn : n + 1 = ps.length := by rfl) : DfM K mg x m q st ps [.non] := by
  subst hk
  have F := fun_mk (st := st) l c k
  refine ⟨f, _, [.none], F, .cons rfl .nil, fun s us X hl => ?_, ?_⟩
  · rw [List.length_append, List.length_singleton] at hl
    refine BindsTo.of_looks fun M => KwChain.looks X (fun q hq => ?_) (hb D doc pm an cdv ct us (by omega))
    rw [List.mem_singleton.mp hq]
    exact hd
  · rw [adr_of (PySem.W.mg_of X G a)]
    exact ⟨fi, fn, k⟩
end
end OC
namespace OC
open PySem PySem.Spec PyProof.Rows L2
/-! ### constants of the module -/
theorem pe_cstr {X : Cx} {x : Str} {z : Str} {pos : Pos} (h : ∃ t, X.mg x = some (.str z t)) (hg : Gl X x) (hd : (x == ("__debug__" : Str)) = false := by decide) : PE X (.Name x pos) (tC (.str z)) := by
  obtain ⟨t, h⟩ := h
  exact pe_glob hg h ⟨t, rfl⟩ hd
theorem pe_cint {X : Cx} {x : Str} {z : Int} {pos : Pos} (h : ∃ t, X.mg x = some (.int z t)) (hg : Gl X x) (hd : (x == ("__debug__" : Str)) = false := by decide) : PE X (.Name x pos) (tC (.int z)) := by
  obtain ⟨t, h⟩ := h
  exact pe_glob hg h ⟨t, rfl⟩ hd
end OC
set_option Elab.async false
set_option linter.all false
set_option maxRecDepth 100000
set_option maxHeartbeats 4000000
/-! moments and books: what stands in memory, what they mean -/
namespace OC
open PySem PySem.Spec PyProof.Rows L2
/-- a moment: the prime, how many numbers, what the listener and each hand heard -/
structure Mom where
  p : Int
  n : Nat
  called : List (List Int)
  hands : List (Str × List (List Int))
/-- what is known at it -/
def Mom.roomsM (m : Mom) : List (Str × List (List Int)) := m.hands.map fun h => (h.1, plainR m.p m.n h.2)
def Mom.openM (m : Mom) : List (List Int) := plainR m.p m.n m.called
def standM (m : Mom) : PyData := standD m.p m.n m.openM m.roomsM
/-- what hands, or the listener, heard -/
def heardM (m : Mom) (ns : List Str) : List (List Int) := if ns = [] then m.called else selR ns m.hands
structure MomOk (B : Nat) (m : Mom) : Prop where
  fld : Fld m.p
  p1 : m.p ≤ 1000
  n1 : 1 ≤ m.n
  n8 : m.n ≤ 8
  okc : RowsOk m.p m.n m.called
  okh : ∀ h ∈ m.hands, RowsOk m.p m.n h.2
  inn : ∀ h ∈ m.hands, ∀ r ∈ m.called, InR m.p h.2 r
  few : 2 ≤ m.hands.length
  many : m.hands.length ≤ 6
  srt : sortedS (m.hands.map Prod.fst) = true
  nd : (m.hands.map Prod.fst).Nodup
  nm : ∀ x ∈ m.hands.map Prod.fst, NameOk x
  lc : m.called.length ≤ B
  lh : ∀ h ∈ m.hands, h.2.length ≤ B
theorem MomOk.mono {B B' : Nat} {m : Mom} (h : MomOk B m) (l : B ≤ B') : MomOk B' m := { h with lc := Nat.le_trans h.lc l, lh := fun x hx => Nat.le_trans (h.lh x hx) l }
theorem roomsM_names (m : Mom) : m.roomsM.map Prod.fst = m.hands.map Prod.fst := by
  unfold Mom.roomsM
  rw [List.map_map]
  exact List.map_congr_left fun _ _ => rfl
/-- the stand of a moment is one -/
theorem MomOk.five {B : Nat} {m : Mom} (M : MomOk B m) : Stand5 m.p m.n m.openM m.roomsM where
  fld := M.fld
  p1 := M.p1
  n1 := M.n1
  n8 := M.n8
  pk := PFR.of_plain M.fld M.okc
  ph := fun h hh => by
    obtain ⟨x, mx, rfl⟩ := List.mem_map.mp hh
    exact PFR.of_plain M.fld (M.okh x mx)
  inn := fun h hh r hr => by
    obtain ⟨x, mx, rfl⟩ := List.mem_map.mp hh
    have h1 := (InR.plain M.fld M.okc).mp (InR.mem hr)
    exact (InR.plain M.fld (M.okh x mx)).mpr (InR.mono (fun z hz => M.inn x mx z hz) h1)
  few := by unfold Mom.roomsM; rw [List.length_map]; exact M.few
  many := by
    have := M.many
    unfold Mom.roomsM
    rw [List.length_map]
    omega
  srt := by rw [roomsM_names]; exact M.srt
  nd := by rw [roomsM_names]; exact M.nd
  nm := by rw [roomsM_names]; exact M.nm
/-! ### in memory -/
def momF (p : Int) (n : Nat) (c h : Addr) : List (Str × V) := putF "hands" (.ref h) (putF "called" (.ref c) (putF "n" (.int (n : Int)) (putF "p" (.int p) [])))
theorem momF_p {p : Int} {n : Nat} {c h : Addr} : (momF p n c h).lookup ("p" : Str) = some (.int p) := by
  unfold momF
  rw [lookup_putF, if_neg (by decide +kernel), lookup_putF, if_neg (by decide +kernel), lookup_putF, if_neg (by decide +kernel), lookup_putF, if_pos rfl]
theorem momF_n {p : Int} {n : Nat} {c h : Addr} : (momF p n c h).lookup ("n" : Str) = some (.int (n : Int)) := by
  unfold momF
  rw [lookup_putF, if_neg (by decide +kernel), lookup_putF, if_neg (by decide +kernel), lookup_putF, if_pos rfl]
theorem momF_called {p : Int} {n : Nat} {c h : Addr} : (momF p n c h).lookup ("called" : Str) = some (.ref c) := by
  unfold momF
  rw [lookup_putF, if_neg (by decide +kernel), lookup_putF, if_pos rfl]
theorem momF_hands {p : Int} {n : Nat} {c h : Addr} : (momF p n c h).lookup ("hands" : Str) = some (.ref h) := by
  unfold momF
  rw [lookup_putF, if_pos rfl]
def MomAt (K : PySem.W.Frag) (mg : Str → Option Value) (H : Hp) (a : Addr) (m : Mom) : Prop :=
  ∃ dx c h, H a = some (.ins (adr mg "Moment") dx (momF m.p m.n c h)) ∧ RowsAt K H c m.called ∧ Dp K H (.ref h) (.tuple (m.hands.map handD))
def bookF (w t u v : Addr) (am : Bool) : List (Str × V) := putF "amid" (.bl am) (putF "trials" (.ref v) (putF "done" (.ref u) (putF "moments" (.ref t) (putF "made" (.ref w) []))))
section
variable {w t u v : Addr} {am : Bool}
theorem bookF_amid : (bookF w t u v am).lookup ("amid" : Str) = some (.bl am) := by
  unfold bookF
  rw [lookup_putF, if_pos rfl]
theorem bookF_done : (bookF w t u v am).lookup ("done" : Str) = some (.ref u) := by
  unfold bookF
  rw [lookup_putF, if_neg (by decide +kernel), lookup_putF, if_neg (by decide +kernel), lookup_putF, if_pos rfl]
theorem bookF_moments : (bookF w t u v am).lookup ("moments" : Str) = some (.ref t) := by
  unfold bookF
  rw [lookup_putF, if_neg (by decide +kernel), lookup_putF, if_neg (by decide +kernel), lookup_putF, if_neg (by decide +kernel), lookup_putF, if_pos rfl]
theorem bookF_none {f : Str} (h1 : ¬ f = "amid") (h2 : ¬ f = "trials") (h3 : ¬ f = "done") (h4 : ¬ f = "moments") (h5 : ¬ f = "made") : (bookF w t u v am).lookup f = none := by
  unfold bookF
  rw [lookup_putF, if_neg h1, lookup_putF, if_neg h2, lookup_putF, if_neg h3, lookup_putF, if_neg h4, lookup_putF, if_neg h5]
  rfl
theorem bookF_eq : bookF w t u v am = ([(("made" : Str), V.ref w), (("moments" : Str), V.ref t), (("done" : Str), V.ref u), (("trials" : Str), V.ref v), (("amid" : Str), V.bl am)] : List (Str × V)) := by
  have e1 : ¬ (("made" : Str) = "moments") := by decide +kernel
  have e2 : ¬ (("made" : Str) = "done") := by decide +kernel
  have e3 : ¬ (("made" : Str) = "trials") := by decide +kernel
  have e4 : ¬ (("made" : Str) = "amid") := by decide +kernel
  have e5 : ¬ (("moments" : Str) = "done") := by decide +kernel
  have e6 : ¬ (("moments" : Str) = "trials") := by decide +kernel
  have e7 : ¬ (("moments" : Str) = "amid") := by decide +kernel
  have e8 : ¬ (("done" : Str) = "trials") := by decide +kernel
  have e9 : ¬ (("done" : Str) = "amid") := by decide +kernel
  have e0 : ¬ (("trials" : Str) = "amid") := by decide +kernel
  unfold bookF
  simp only [putF, if_neg e1, if_neg e2, if_neg e3, if_neg e4, if_neg e5, if_neg e6, if_neg e7, if_neg e8, if_neg e9, if_neg e0]
theorem bookF_setMoments (z : Addr) : putF "moments" (.ref z) (bookF w t u v am) = bookF w z u v am := by
  rw [bookF_eq, bookF_eq]
  have e1 : ¬ (("made" : Str) = "moments") := by decide +kernel
  simp only [putF, if_neg e1, if_true]
theorem bookF_setDone (z : Addr) : putF "done" (.ref z) (bookF w t u v am) = bookF w t z v am := by
  rw [bookF_eq, bookF_eq]
  have e1 : ¬ (("made" : Str) = "done") := by decide +kernel
  have e2 : ¬ (("moments" : Str) = "done") := by decide +kernel
  simp only [putF, if_neg e1, if_neg e2, if_true]
theorem bookF_len : (bookF w t u v am).length = 5 := by rw [bookF_eq]; rfl
end
/-- the deeds -/
inductive Deed where
  | call (x : Str) (r : List Int)
  | whisper (ns : List Str) (r : List Int)
  | meet (ns : List Str)
  | hide
  | change (k : Nat) (r : List Int)
  | come (x : Str) (rs : List (List Int))
  | go (x : Str)
def strsD (ns : List Str) : PyData := .tuple (ns.map PyData.str)
def deedD : Deed → PyData
  | .call x r => .tuple [.str "call", .str x, rowD r]
  | .whisper ns r => .tuple [.str "whisper", strsD ns, rowD r]
  | .meet ns => .tuple [.str "meet", strsD ns]
  | .hide => .tuple [.str "hide"]
  | .change k r => .tuple [.str "change", .int k, rowD r]
  | .come x rs => .tuple [.str "come", .str x, .tuple (rs.map rowD)]
  | .go x => .tuple [.str "go", .str x]
theorem noL_strsA : ∀ ns : List Str, noLAll (ns.map PyData.str) = true
  | [] => rfl
  | x :: ns => by simp only [List.map_cons, noLAll, noL, Bool.true_and]; exact noL_strsA ns
theorem noL_strsD (ns : List Str) : noL (strsD ns) = true := by
  unfold strsD
  simp only [noL]
  exact noL_strsA ns
theorem noL_deed (d : Deed) : noL (deedD d) = true := by
  cases d with
  | call x r => simp only [deedD, noL, noLAll, noL_row, Bool.and_true]
  | whisper ns r => simp only [deedD, noL, noLAll, noL_row, noL_strsD, Bool.and_true]
  | meet ns => simp only [deedD, noL, noLAll, noL_strsD, Bool.and_true]
  | hide => rfl
  | change k r => simp only [deedD, noL, noLAll, noL_row, Bool.and_true]
  | come x rs =>
    have h := noL_rows rs
    simp only [deedD, noL, noLAll, h, Bool.and_true]
  | go x => simp only [deedD, noL, noLAll, Bool.and_true]
theorem noL_deeds : ∀ ds : List Deed, noLAll (ds.map deedD) = true
  | [] => rfl
  | d :: ds => by simp only [List.map_cons, noLAll, noL_deed, Bool.true_and]; exact noL_deeds ds
/-- a book as it stands: its moments, its deeds, its tries -/
structure BookS where
  made : PyData
  moms : List Mom
  deeds : List Deed
  trials : List PyData
  amid : Bool
def MomsAt (K : PySem.W.Frag) (mg : Str → Option Value) (H : Hp) : List V → List Mom → Prop
  | [], [] => True
  | v :: vs, m :: ms => (∃ a, v = .ref a ∧ MomAt K mg H a m) ∧ MomsAt K mg H vs ms
  | _, _ => False
structure BookAt (K : PySem.W.Frag) (mg : Str → Option Value) (H : Hp) (b : Addr) (q : BookS) : Prop where
  ex : ∃ dx w t u v vs, H b = some (.ins (adr mg "Book") dx (bookF w t u v q.amid)) ∧ SqT K H t vs ∧ MomsAt K mg H vs q.moms ∧ Dp K H (.ref u) (.tuple (q.deeds.map deedD)) ∧ Dp K H (.ref w) q.made ∧ Dp K H (.ref v) (.tuple q.trials)
  nd : noL q.made = true ∧ noLAll q.trials = true
  len : q.moms.length = q.deeds.length + 1
/-! ### what moves nothing of them -/
/-- tuples stand, moments stand -/
structure Mv (mg : Str → Option Value) (H H' : Hp) : Prop where
  tk : Tk H H'
  mo : ∀ a dx p n c h, H a = some (.ins (adr mg "Moment") dx (momF p n c h)) → H' a = some (.ins (adr mg "Moment") dx (momF p n c h))
section
variable {K : PySem.W.Frag} {mg : Str → Option Value} {H H' H'' : Hp} {a b : Addr} {m : Mom} {q : BookS}
theorem Mv.refl : Mv mg H H := ⟨Tk.refl _, fun _ _ _ _ _ _ h => h⟩
theorem Mv.of (s : Same H H') : Mv mg H H' := ⟨Tk.of s, fun _ _ _ _ _ _ h => s _ _ h⟩
theorem Mv.trans (x : Mv mg H H') (y : Mv mg H' H'') : Mv mg H H'' := ⟨x.tk.trans y.tk, fun a dx p n c h e => y.mo a dx p n c h (x.mo a dx p n c h e)⟩
theorem RowsAt.tk {a : Addr} {rs : List (List Int)} (t : Tk H H') (h : RowsAt K H a rs) : RowsAt K H' a rs := by
  obtain ⟨ws, e, d⟩ := h
  exact ⟨ws, t _ _ _ e, dpAll_tk t _ _ (noL_rows _) d⟩
theorem noL_handsT (hs : List (Str × List (List Int))) : noL (.tuple (hs.map handD)) = true := by
  simp only [noL]
  exact noL_hands hs
theorem MomAt.mv (x : Mv mg H H') (h : MomAt K mg H a m) : MomAt K mg H' a m := by
  obtain ⟨dx, c, hh, e, r, d⟩ := h
  exact ⟨dx, c, hh, x.mo _ _ _ _ _ _ e, r.tk x.tk, dp_tk x.tk _ _ (noL_handsT _) d⟩
theorem MomAt.same (s : Same H H') (h : MomAt K mg H a m) : MomAt K mg H' a m := h.mv (.of s)
theorem MomsAt.mv (x : Mv mg H H') : ∀ {vs : List V} {ms : List Mom}, MomsAt K mg H vs ms → MomsAt K mg H' vs ms
  | [], [], _ => trivial
  | v :: vs, m :: ms, ⟨⟨a, e, h⟩, r⟩ => ⟨⟨a, e, h.mv x⟩, MomsAt.mv x r⟩
  | [], _ :: _, h => h.elim
  | _ :: _, [], h => h.elim
theorem MomsAt.len : ∀ {vs : List V} {ms : List Mom}, MomsAt K mg H vs ms → vs.length = ms.length
  | [], [], _ => rfl
  | v :: vs, m :: ms, ⟨_, r⟩ => by rw [List.length_cons, List.length_cons, MomsAt.len r]
  | [], _ :: _, h => h.elim
  | _ :: _, [], h => h.elim
theorem MomsAt.get : ∀ {vs : List V} {ms : List Mom} {i : Nat} {m : Mom}, MomsAt K mg H vs ms → ms[i]? = some m → ∃ a, vs[i]? = some (.ref a) ∧ MomAt K mg H a m
  | [], [], _, _, _, h => by simp at h
  | v :: vs, m :: ms, 0, m', ⟨⟨a, e, h⟩, _⟩, g => by
    cases g
    exact ⟨a, by rw [e]; rfl, h⟩
  | v :: vs, m :: ms, i + 1, m', ⟨_, r⟩, g => by
    obtain ⟨a, e, h⟩ := MomsAt.get (i := i) (m := m') r (by simpa using g)
    exact ⟨a, by simpa using e, h⟩
  | [], _ :: _, _, _, h, _ => h.elim
  | _ :: _, [], _, _, h, _ => h.elim
theorem MomsAt.append : ∀ {vs vs' : List V} {ms ms' : List Mom}, MomsAt K mg H vs ms → MomsAt K mg H vs' ms' → MomsAt K mg H (vs ++ vs') (ms ++ ms')
  | [], _, [], _, _, h => h
  | v :: vs, _, m :: ms, _, ⟨e, r⟩, h => ⟨e, MomsAt.append r h⟩
  | [], _, _ :: _, _, h, _ => h.elim
  | _ :: _, _, [], _, h, _ => h.elim
theorem MomsAt.take : ∀ {vs : List V} {ms : List Mom} (i : Nat), MomsAt K mg H vs ms → MomsAt K mg H (vs.take i) (ms.take i)
  | _, _, 0, _ => by simp [MomsAt]
  | [], [], i + 1, _ => by simp [MomsAt]
  | v :: vs, m :: ms, i + 1, ⟨e, r⟩ => by
    rw [List.take_succ_cons, List.take_succ_cons]
    exact ⟨e, MomsAt.take i r⟩
  | [], _ :: _, _ + 1, h => h.elim
  | _ :: _, [], _ + 1, h => h.elim
theorem noL_tup {ds : List PyData} (h : noLAll ds = true) : noL (.tuple ds) = true := by
  simp only [noL]
  exact h
theorem BookAt.mv (x : Mv mg H H') (hb : ∀ o, H b = some o → H' b = some o) (h : BookAt K mg H b q) : BookAt K mg H' b q := by
  obtain ⟨⟨dx, w, t, u, v, vs, e, h1, h2, h3, h4, h5⟩, nd, len⟩ := h
  exact ⟨⟨dx, w, t, u, v, vs, hb _ e, x.tk _ _ _ h1, h2.mv x, dp_tk x.tk _ _ (noL_tup (noL_deeds _)) h3, dp_tk x.tk _ _ nd.1 h4, dp_tk x.tk _ _ (noL_tup nd.2) h5⟩, nd, len⟩
theorem BookAt.same (s : Same H H') (h : BookAt K mg H b q) : BookAt K mg H' b q := h.mv (.of s) fun o e => s _ _ e
theorem BookAt.at_ (h : BookAt K mg H b q) : ∃ dx fs, H b = some (.ins (adr mg "Book") dx fs) ∧ ∀ f : Str, ¬ f = "amid" → ¬ f = "trials" → ¬ f = "done" → ¬ f = "moments" → ¬ f = "made" → fs.lookup f = none := by
  obtain ⟨⟨dx, w, t, u, v, vs, e, _⟩, _⟩ := h
  exact ⟨dx, _, e, fun f h1 h2 h3 h4 h5 => bookF_none h1 h2 h3 h4 h5⟩
/-- a store into the book alone -/
def Xc (b : Addr) (H H' : Hp) : Prop := ∀ a o, H a = some o → a ≠ b → H' a = some o
theorem Xc.refl : Xc b H H := fun _ _ h _ => h
theorem Xc.of (s : Same H H') : Xc b H H' := fun _ _ h _ => s _ _ h
theorem Xc.trans (x : Xc b H H') (y : Xc b H' H'') : Xc b H H'' := fun a o h n => y a o (x a o h n) n
theorem Xc.mvI {C dx : Addr} {fs : List (Str × V)} (e : H b = some (.ins C dx fs)) (np : fs.lookup ("p" : Str) = none) (x : Xc b H H') : Mv mg H H' := by
  refine ⟨fun K a xs h => ?_, fun a dx' p n c h e' => ?_⟩
  · rcases h with (h | ⟨o, h⟩) | h
    · exact .inl (.inl (x _ _ h fun z => by rw [z, e] at h; cases h))
    · exact .inl (.inr ⟨o, x _ _ h fun z => by rw [z, e] at h; cases h⟩)
    · exact .inr h
  · refine x _ _ e' fun z => ?_
    rw [z, e] at e'
    have e2 := congrArg (fun o => match o with | some (.ins _ _ fs) => List.lookup ("p" : Str) fs | _ => none) e'
    have e2 : fs.lookup ("p" : Str) = (momF p n c h).lookup ("p" : Str) := e2
    rw [momF_p, np] at e2
    cases e2
theorem Xc.mv {C dx : Addr} {w t u v : Addr} {am : Bool} (e : H b = some (.ins C dx (bookF w t u v am))) (x : Xc b H H') : Mv mg H H' :=
  x.mvI e (bookF_none (by decide +kernel) (by decide +kernel) (by decide +kernel) (by decide +kernel) (by decide +kernel))
theorem BookAt.xc (h : BookAt K mg H b q) (x : Xc b H H') : Mv mg H H' := by
  obtain ⟨⟨dx, w, t, u, v, vs, e, _⟩, _⟩ := h
  exact x.mv e
/-- a deed more -/
def BookS.push (q : BookS) (m : Mom) (d : Deed) : BookS := { q with moms := q.moms ++ [m], deeds := q.deeds ++ [d] }
def BookS.pop (q : BookS) : BookS := { q with moms := q.moms.dropLast, deeds := q.deeds.dropLast }
end
/-- which moment is asked for -/
def AtIdx (q : BookS) (v : V) (i : Nat) : Prop := i < q.moms.length ∧ (v = .non ∧ i + 1 = q.moms.length ∨ v = .int (i : Int))
end OC
set_option Elab.async false
set_option linter.all false
set_option maxRecDepth 100000
set_option maxHeartbeats 4000000
/-! xs.extend(t), t any tuple -/
namespace PySem
open SeqRoads2 AutoSeq1
theorem oc_extend_tup {l b : Addr} {xs ys : Array Value} {n n2 : Nat} {dd : Option Addr} {sl : Array (Option Value)} (h1 : ¬(!xs.isEmpty && Builtin.List.listTooLong (xs.size + ys.size)) = true) (h2 : xs.size ≤ sizeLine) (h3 : xs.size + ys.size ≤ sizeLine + 1) :
    Meets (Builtin.«list.extend» ⟨[.ref l, .ref b], []⟩) (fun _ R s => s.heap.get? l = some { cls := .type "list", dict := none, data := .seq xs n, slots := #[] } ∧ s.heap.get? b = some { cls := .type "tuple", dict := dd, data := .seq ys n2, slots := sl } ∧
      R (.ok (.ret Value.none)) { s with heap := s.heap.update l (Obj.mapSeq fun x => x ++ ys), toks := s.toks }) := by
  refine .of_wp fun prog w A R s h => ?_
  obtain ⟨hp, g, d, tk, os⟩ := s
  obtain ⟨hl, hb, h⟩ := h
  have f2 := sub_tuple_tuple
  have f4 := sub_tuple_list
  have big : (xs ++ ys).size ≤ sizeLine + 1 := by rw [Array.size_append]; exact h3
  wp_walk using (wpAny_updateSeq hl rfl (hz := h2) (_hz' := big)), wpAny_loadPart' hl, wpAny_loadPart' hb
  exact ⟨_, rfl, h⟩
end PySem
namespace OC
open PySem PySem.Spec PyProof.Rows L2
def rExtT (K : PySem.W.Frag) : V → List V → Hp → VK → Prop := fun x vs H Q => ∃ l b xs zs, x = .ref l ∧ vs = [.ref b] ∧ H l = some (.lst xs) ∧ SqT K H b zs ∧ xs.length + zs.length ≤ sizeLine ∧ Q .non (upd H l (.lst (xs ++ zs)))
theorem mt_extT {X : Cx} : MtM X "list.extend" (rExtT X.K) := by
  intro pins s σ H x vs v us Q I rx rv h
  obtain ⟨l, b, xs, zs, rfl, rfl, hH, hB, hz, q⟩ := h
  cases rx
  obtain ⟨u, rfl, ru⟩ := rv.one
  cases ru
  obtain ⟨z, its, n, r, hl, e⟩ := I.lstM hH
  obtain ⟨its2, r2, pl, z2⟩ := I.tuple hB
  obtain ⟨⟨cls, dd, dt, sl⟩, ho, hc, n2, hd⟩ := pl
  simp only at hc hd
  subst hc hd
  have hl2 := r2.length
  have sz : its.toArray.size + its2.toArray.size ≤ sizeLine := by rw [List.size_toArray, List.size_toArray]; omega
  refine call_meets F.slot_list_extend ⟨_, e, rfl⟩ F.entry_list_extend (F.args_list_extend_2 _ _) (oc_extend_tup (by rw [notLongL sz, Bool.and_false]; exact Bool.false_ne_true) (by rw [List.size_toArray]; omega) (by omega)) ⟨e, ho, ?_⟩
  refine ⟨.non, _, I.lset (its' := its ++ its2) hH e (by simp) (r.append r2) ?_, rfl, q⟩
  rw [List.length_append]
  omega
end OC
set_option Elab.async false
set_option linter.all false
set_option maxRecDepth 100000
set_option maxHeartbeats 4000000
/-! methods within a comprehension: the reading must not name the block -/
set_option Elab.async false
set_option linter.all false
set_option maxRecDepth 100000
set_option maxHeartbeats 4000000
/-! what a book's calls mean; what moves no book -/
namespace OC
open PySem PySem.Spec PyProof.Rows L2
section
variable {K : PySem.W.Frag} {mg : Str → Option Value} {H H' H'' : Hp} {b d c : Addr} {t : Int} {q : BookS}
theorem Mv.kept (D : Deck H d c t) (k : Kept d c H H') : Mv mg H H' := by
  refine ⟨Tk.kept D k, fun a dx p n c' h e => k _ _ e (fun z => ?_) (fun z => ?_)⟩
  · rw [z, D.hd] at e; cases e
  · obtain ⟨cells, h1, _⟩ := D.hc
    rw [z, h1] at e; cases e
theorem BookAt.ins (h : BookAt K mg H b q) : ∃ dx fs, H b = some (.ins (adr mg "Book") dx fs) := by
  obtain ⟨⟨dx, w, t, u, v, vs, e, _⟩, _⟩ := h
  exact ⟨dx, _, e⟩
theorem BookAt.kept (D : Deck H d c t) (k : Kept d c H H') (h : BookAt K mg H b q) : BookAt K mg H' b q := by
  obtain ⟨dx, fs, e⟩ := h.ins
  obtain ⟨cells, h1, _⟩ := D.hc
  refine h.mv (.kept D k) fun o eo => k _ _ eo (fun z => ?_) (fun z => ?_)
  · rw [z, D.hd] at e; cases e
  · rw [z, h1] at e; cases e
theorem Deck.xc (D : Deck H d c t) (B : BookAt K mg H b q) (x : Xc b H H') : Deck H' d c t := by
  obtain ⟨dx, fs, e⟩ := B.ins
  obtain ⟨hd, ⟨cells, h1, h2⟩, n, t0⟩ := D
  exact ⟨x _ _ hd (fun z => by rw [z, e] at hd; cases hd), ⟨cells, x _ _ h1 (fun z => by rw [z, e] at h1; cases h1), h2⟩, n, t0⟩
theorem Tabs.xc {T : List (Addr × Str)} (h : LamX.Tabs T H) (B : BookAt K mg H b q) (x : Xc b H H') : LamX.Tabs T H' := fun p hp => by
  obtain ⟨dx, fs, e⟩ := B.ins
  obtain ⟨ps, h1, h2, h3⟩ := h p hp
  refine ⟨ps, x _ _ h1 (fun z => by rw [z, e] at h1; cases h1), h2, fun pos cv hc => ?_⟩
  obtain ⟨c, rfl, hc2⟩ := h3 pos cv hc
  exact ⟨c, rfl, x _ _ hc2 fun z => by rw [z, e] at hc2; cases hc2⟩
theorem BookAt.back (q : BookS) (m : Mom) (d : Deed) : (q.push m d).pop = q := by
  unfold BookS.push BookS.pop
  simp only [List.dropLast_concat]
end
/-! ### what is known behind calls -/
section
variable {B : Nat} {m : Mom} {r : List Int} {x : Str} {ns : List Str}
theorem sel_in {hs : List (Str × List (List Int))} {r : List Int} : r ∈ selR ns hs ↔ ∃ h ∈ hs, h.1 ∈ ns ∧ r ∈ h.2 := by
  unfold selR
  rw [List.mem_flatMap]
  constructor
  · rintro ⟨h, mh, hr⟩
    by_cases e : h.1 ∈ ns
    · rw [if_pos e] at hr
      exact ⟨h, mh, e, hr⟩
    · rw [if_neg e] at hr
      cases hr
  · rintro ⟨h, mh, e, hr⟩
    exact ⟨h, mh, by rw [if_pos e]; exact hr⟩
/-- what hands know of a moment is their room in its stand -/
theorem room_known (M : MomOk B m) (hne : ∃ x ∈ ns, x ∈ m.hands.map Prod.fst) : plainR m.p m.n (heardM m ns) = roomR m.p m.n m.openM m.roomsM ns := by
  obtain ⟨x, mx, hx⟩ := hne
  have e0 : heardM m ns = selR ns m.hands := by
    unfold heardM
    rw [if_neg fun z => by rw [z] at mx; cases mx]
  rw [e0]
  obtain ⟨hx', mh', rfl⟩ := List.mem_map.mp hx
  have S := M.five
  have ok1 : RowsOk m.p m.n (selR ns m.hands) := sel_ok M.okh
  refine plain_same M.fld ok1 (room_rows S ns) (fun r hr => ?_) (fun r hr => ?_)
  · obtain ⟨h, mh, hn, hr⟩ := sel_in.mp hr
    refine InR.right (InR.mono (fun z hz => InR.mem (sel_in.mpr ⟨(h.1, plainR m.p m.n h.2), List.mem_map_of_mem mh, hn, hz⟩)) ?_)
    exact (InR.plain M.fld (M.okh h mh)).mpr (InR.mem hr)
  · rcases List.mem_append.mp hr with hr | hr
    · have h1 : InR m.p m.called r := (InR.plain M.fld M.okc).mp (InR.mem hr)
      refine InR.mono (fun z hz => ?_) h1
      exact InR.mono (fun y hy => InR.mem (sel_in.mpr ⟨hx', mh', mx, hy⟩)) (M.inn hx' mh' z hz)
    · obtain ⟨h, mh, hn, hr⟩ := sel_in.mp hr
      obtain ⟨g, mg', rfl⟩ := List.mem_map.mp mh
      have h1 : InR m.p g.2 r := (InR.plain M.fld (M.okh g mg')).mp (InR.mem hr)
      exact InR.mono (fun y hy => InR.mem (sel_in.mpr ⟨g, mg', hn, hy⟩)) h1
end
end OC
set_option Elab.async false
set_option linter.all false
set_option maxRecDepth 100000
set_option maxHeartbeats 4000000
namespace OC
open PySem PySem.Spec PyProof.Rows L2
def topS (i : Nat) : Stmt := PySem.Challenge.pw_opencalls_k68_whole_asides_in_the_book.main.body.getD i (.Pass ⟨0, 0, 0, 0⟩)
abbrev s_is_name : Stmt := topS 20
abbrev N_is_name : List Str := ["thing", "sign"]
theorem sc_is_name : FnScope N_is_name ["thing"] (defScope s_is_name) := ⟨rfl, rfl, rfl, by decide +kernel, rfl, by decide +kernel, by decide +kernel⟩
abbrev s_is_rising : Stmt := topS 21
abbrev N_is_rising : List Str := ["things", "one", "other"]
theorem sc_is_rising : FnScope N_is_rising ["things"] (defScope s_is_rising) := ⟨rfl, rfl, rfl, by decide +kernel, rfl, by decide +kernel, by decide +kernel⟩
abbrev s_are_names : Stmt := topS 22
abbrev N_are_names : List Str := ["thing", "part"]
theorem sc_are_names : FnScope N_are_names ["thing"] (defScope s_are_names) := ⟨rfl, rfl, rfl, by decide +kernel, rfl, by decide +kernel, by decide +kernel⟩
abbrev s_is_number : Stmt := topS 24
abbrev N_is_number : List Str := ["thing"]
theorem sc_is_number : FnScope N_is_number ["thing"] (defScope s_is_number) := ⟨rfl, rfl, rfl, by decide +kernel, rfl, by decide +kernel, by decide +kernel⟩
abbrev s_is_rest : Stmt := topS 25
abbrev N_is_rest : List Str := ["p", "thing"]
theorem sc_is_rest : FnScope N_is_rest ["p", "thing"] (defScope s_is_rest) := ⟨rfl, rfl, rfl, by decide +kernel, rfl, by decide +kernel, by decide +kernel⟩
abbrev s_contrary : Stmt := topS 26
abbrev N_contrary : List Str := ["p", "a", "b"]
theorem sc_contrary : FnScope N_contrary ["p", "a"] (defScope s_contrary) := ⟨rfl, rfl, rfl, by decide +kernel, rfl, by decide +kernel, by decide +kernel⟩
abbrev s_is_row : Stmt := topS 28
abbrev N_is_row : List Str := ["p", "n", "thing", "part"]
theorem sc_is_row : FnScope N_is_row ["p", "n", "thing"] (defScope s_is_row) := ⟨rfl, rfl, rfl, by decide +kernel, rfl, by decide +kernel, by decide +kernel⟩
abbrev s_added : Stmt := topS 29
abbrev N_added : List Str := ["p", "one", "other", "a", "b"]
theorem sc_added : FnScope N_added ["p", "one", "other"] (defScope s_added) := ⟨rfl, rfl, rfl, by decide +kernel, rfl, by decide +kernel, by decide +kernel⟩
abbrev s_times : Stmt := topS 30
abbrev N_times : List Str := ["p", "a", "row", "rest"]
theorem sc_times : FnScope N_times ["p", "a", "row"] (defScope s_times) := ⟨rfl, rfl, rfl, by decide +kernel, rfl, by decide +kernel, by decide +kernel⟩
abbrev s_worth : Stmt := topS 31
abbrev N_worth : List Str := ["p", "row", "world", "a", "b"]
theorem sc_worth : FnScope N_worth ["p", "row", "world"] (defScope s_worth) := ⟨rfl, rfl, rfl, by decide +kernel, rfl, by decide +kernel, by decide +kernel⟩
abbrev s_made_of : Stmt := topS 32
abbrev N_made_of : List Str := ["p", "n", "rows", "factors", "total", "row", "factor"]
theorem sc_made_of : FnScope N_made_of ["p", "n", "rows", "factors"] (defScope s_made_of) := ⟨rfl, rfl, rfl, by decide +kernel, rfl, by decide +kernel, by decide +kernel⟩
abbrev s_check_hand : Stmt := topS 34
abbrev N_check_hand : List Str := ["there", "hand"]
theorem sc_check_hand : FnScope N_check_hand ["there", "hand"] (defScope s_check_hand) := ⟨rfl, rfl, rfl, by decide +kernel, rfl, by decide +kernel, by decide +kernel⟩
abbrev s_check_hands : Stmt := topS 35
abbrev N_check_hands : List Str := ["there", "hands", "least", "hand"]
theorem sc_check_hands : FnScope N_check_hands ["there", "hands", "least"] (defScope s_check_hands) := ⟨rfl, rfl, rfl, by decide +kernel, rfl, by decide +kernel, by decide +kernel⟩
abbrev s_check_row : Stmt := topS 36
abbrev N_check_row : List Str := ["p", "n", "row"]
theorem sc_check_row : FnScope N_check_row ["p", "n", "row"] (defScope s_check_row) := ⟨rfl, rfl, rfl, by decide +kernel, rfl, by decide +kernel, by decide +kernel⟩
abbrev s_is_noughts : Stmt := topS 38
abbrev N_is_noughts : List Str := ["row", "rest"]
theorem sc_is_noughts : FnScope N_is_noughts ["row"] (defScope s_is_noughts) := ⟨rfl, rfl, rfl, by decide +kernel, rfl, by decide +kernel, by decide +kernel⟩
abbrev s_first_place : Stmt := topS 39
abbrev N_first_place : List Str := ["row", "at", "rest"]
theorem sc_first_place : FnScope N_first_place ["row"] (defScope s_first_place) := ⟨rfl, rfl, rfl, by decide +kernel, rfl, by decide +kernel, by decide +kernel⟩
abbrev s_cleared : Stmt := topS 40
abbrev N_cleared : List Str := ["p", "plain", "row", "factor"]
theorem sc_cleared : FnScope N_cleared ["p", "plain", "row"] (defScope s_cleared) := ⟨rfl, rfl, rfl, by decide +kernel, rfl, by decide +kernel, by decide +kernel⟩
abbrev s_left_of : Stmt := topS 41
abbrev N_left_of : List Str := ["p", "room", "row", "plain"]
theorem sc_left_of : FnScope N_left_of ["p", "room", "row"] (defScope s_left_of) := ⟨rfl, rfl, rfl, by decide +kernel, rfl, by decide +kernel, by decide +kernel⟩
abbrev s_widened : Stmt := topS 42
abbrev N_widened : List Str := ["p", "room", "row", "rest", "at", "fresh", "plain"]
theorem sc_widened : FnScope N_widened ["p", "room", "row"] (defScope s_widened) := ⟨rfl, rfl, rfl, by decide +kernel, rfl, by decide +kernel, by decide +kernel⟩
abbrev s_room_of : Stmt := topS 43
abbrev N_room_of : List Str := ["p", "n", "rows", "room", "row"]
theorem sc_room_of : FnScope N_room_of ["p", "n", "rows"] (defScope s_room_of) := ⟨rfl, rfl, rfl, by decide +kernel, rfl, by decide +kernel, by decide +kernel⟩
abbrev s_within : Stmt := topS 44
abbrev N_within : List Str := ["p", "room", "row"]
theorem sc_within : FnScope N_within ["p", "room", "row"] (defScope s_within) := ⟨rfl, rfl, rfl, by decide +kernel, rfl, by decide +kernel, by decide +kernel⟩
abbrev s_first_outside : Stmt := topS 45
abbrev N_first_outside : List Str := ["p", "room", "rows", "row"]
theorem sc_first_outside : FnScope N_first_outside ["p", "room", "rows"] (defScope s_first_outside) := ⟨rfl, rfl, rfl, by decide +kernel, rfl, by decide +kernel, by decide +kernel⟩
abbrev s_inside : Stmt := topS 46
abbrev N_inside : List Str := ["p", "one", "other", "row"]
theorem sc_inside : FnScope N_inside ["p", "one", "other"] (defScope s_inside) := ⟨rfl, rfl, rfl, by decide +kernel, rfl, by decide +kernel, by decide +kernel⟩
abbrev s_joined : Stmt := topS 47
abbrev N_joined : List Str := ["p", "n", "one", "other"]
theorem sc_joined : FnScope N_joined ["p", "n", "one", "other"] (defScope s_joined) := ⟨rfl, rfl, rfl, by decide +kernel, rfl, by decide +kernel, by decide +kernel⟩
abbrev s_shared : Stmt := topS 48
abbrev N_shared : List Str := ["p", "n", "one", "other"]
theorem sc_shared : FnScope N_shared ["p", "n", "one", "other"] (defScope s_shared) := ⟨rfl, rfl, rfl, by decide +kernel, rfl, by decide +kernel, by decide +kernel⟩
abbrev s_across : Stmt := topS 49
abbrev N_across : List Str := ["p", "n", "room", "plain", "firsts", "at"]
theorem sc_across : FnScope N_across ["p", "n", "room"] (defScope s_across) := ⟨rfl, rfl, rfl, by decide +kernel, rfl, by decide +kernel, by decide +kernel⟩
abbrev s_across_at : Stmt := topS 50
abbrev N_across_at : List Str := ["p", "n", "room", "at", "rests", "plain"]
theorem sc_across_at : FnScope N_across_at ["p", "n", "room", "at"] (defScope s_across_at) := ⟨rfl, rfl, rfl, by decide +kernel, rfl, by decide +kernel, by decide +kernel⟩
abbrev s_names_of : Stmt := topS 52
abbrev N_names_of : List Str := ["stand", "name", "room"]
theorem sc_names_of : FnScope N_names_of ["stand"] (defScope s_names_of) := ⟨rfl, rfl, rfl, by decide +kernel, rfl, by decide +kernel, by decide +kernel⟩
abbrev s_room_in : Stmt := topS 53
abbrev N_room_in : List Str := ["stand", "names", "p", "n", "known", "hands", "rows", "name", "room"]
theorem sc_room_in : FnScope N_room_in ["stand", "names"] (defScope s_room_in) := ⟨rfl, rfl, rfl, by decide +kernel, rfl, by decide +kernel, by decide +kernel⟩
abbrev s_aside : Stmt := topS 55
abbrev N_aside : List Str := ["stand", "caller", "learner", "other", "row", "p", "n", "name", "rooms", "call"]
theorem sc_aside : FnScope N_aside ["stand", "caller", "learner", "other", "row"] (defScope s_aside) := ⟨rfl, rfl, rfl, by decide +kernel, rfl, by decide +kernel, by decide +kernel⟩
abbrev s_rooms_of_three : Stmt := topS 56
abbrev N_rooms_of_three : List Str := ["stand", "caller", "learner", "other", "name"]
theorem sc_rooms_of_three : FnScope N_rooms_of_three ["stand", "caller", "learner", "other"] (defScope s_rooms_of_three) := ⟨rfl, rfl, rfl, by decide +kernel, rfl, by decide +kernel, by decide +kernel⟩
abbrev s_way_of : Stmt := topS 57
abbrev N_way_of : List Str := ["p", "n", "rooms", "row", "caller", "learner", "other"]
theorem sc_way_of : FnScope N_way_of ["p", "n", "rooms", "row"] (defScope s_way_of) := ⟨rfl, rfl, rfl, by decide +kernel, rfl, by decide +kernel, by decide +kernel⟩
abbrev s_is_aside : Stmt := topS 58
abbrev N_is_aside : List Str := ["p", "rooms", "row", "call", "caller", "learner", "other"]
theorem sc_is_aside : FnScope N_is_aside ["p", "rooms", "row", "call"] (defScope s_is_aside) := ⟨rfl, rfl, rfl, by decide +kernel, rfl, by decide +kernel, by decide +kernel⟩
abbrev s_is_barred : Stmt := topS 59
abbrev N_is_barred : List Str := ["p", "n", "rooms", "row", "caller", "learner", "other", "way"]
theorem sc_is_barred : FnScope N_is_barred ["p", "n", "rooms", "row"] (defScope s_is_barred) := ⟨rfl, rfl, rfl, by decide +kernel, rfl, by decide +kernel, by decide +kernel⟩
abbrev s_call_aside : Stmt := topS 60
abbrev N_call_aside : List Str := ["p", "n", "rooms", "row", "caller", "learner", "other", "way", "news", "strange", "call"]
theorem sc_call_aside : FnScope N_call_aside ["p", "n", "rooms", "row"] (defScope s_call_aside) := ⟨rfl, rfl, rfl, by decide +kernel, rfl, by decide +kernel, by decide +kernel⟩
abbrev s_led : Stmt := topS 62
abbrev s_makes : Stmt := topS 64
abbrev N_makes : List Str := ["p", "n", "rows", "row", "numbers", "size", "at", "number", "marked", "rest", "factors", "taken"]
theorem sc_makes : FnScope N_makes ["p", "n", "rows", "row"] (defScope s_makes) := ⟨rfl, rfl, rfl, by decide +kernel, rfl, by decide +kernel, by decide +kernel⟩
abbrev s_mark : Stmt := topS 65
abbrev N_mark : List Str := ["size", "at"]
theorem sc_mark : FnScope N_mark ["size", "at"] (defScope s_mark) := ⟨rfl, rfl, rfl, by decide +kernel, rfl, by decide +kernel, by decide +kernel⟩
abbrev s_makes_hold : Stmt := topS 66
abbrev N_makes_hold : List Str := ["p", "n", "rows", "row", "thing"]
theorem sc_makes_hold : FnScope N_makes_hold ["p", "n", "rows", "row", "thing"] (defScope s_makes_hold) := ⟨rfl, rfl, rfl, by decide +kernel, rfl, by decide +kernel, by decide +kernel⟩
abbrev s_parted : Stmt := topS 67
abbrev N_parted : List Str := ["p", "n", "rows", "row", "world"]
theorem sc_parted : FnScope N_parted ["p", "n", "rows", "row"] (defScope s_parted) := ⟨rfl, rfl, rfl, by decide +kernel, rfl, by decide +kernel, by decide +kernel⟩
abbrev s_parted_hold : Stmt := topS 68
abbrev N_parted_hold : List Str := ["p", "n", "rows", "row", "thing", "world", "one", "other", "heard"]
theorem sc_parted_hold : FnScope N_parted_hold ["p", "n", "rows", "row", "thing"] (defScope s_parted_hold) := ⟨rfl, rfl, rfl, by decide +kernel, rfl, by decide +kernel, by decide +kernel⟩
abbrev s_needed : Stmt := topS 69
abbrev N_needed : List Str := ["p", "n", "rows", "numbers", "room", "number", "row"]
theorem sc_needed : FnScope N_needed ["p", "n", "rows"] (defScope s_needed) := ⟨rfl, rfl, rfl, by decide +kernel, rfl, by decide +kernel, by decide +kernel⟩
abbrev s_names_at : Stmt := topS 72
abbrev N_names_at : List Str := ["moment", "name", "rows"]
theorem sc_names_at : FnScope N_names_at ["moment"] (defScope s_names_at) := ⟨rfl, rfl, rfl, by decide +kernel, rfl, by decide +kernel, by decide +kernel⟩
abbrev s_heard_at : Stmt := topS 73
abbrev N_heard_at : List Str := ["moment", "names", "heard", "name", "rows"]
theorem sc_heard_at : FnScope N_heard_at ["moment", "names"] (defScope s_heard_at) := ⟨rfl, rfl, rfl, by decide +kernel, rfl, by decide +kernel, by decide +kernel⟩
abbrev s_known_at : Stmt := topS 74
abbrev N_known_at : List Str := ["moment", "names"]
theorem sc_known_at : FnScope N_known_at ["moment", "names"] (defScope s_known_at) := ⟨rfl, rfl, rfl, by decide +kernel, rfl, by decide +kernel, by decide +kernel⟩
abbrev s_why_at : Stmt := topS 75
abbrev N_why_at : List Str := ["moment", "names", "row", "heard", "factors"]
theorem sc_why_at : FnScope N_why_at ["moment", "names", "row"] (defScope s_why_at) := ⟨rfl, rfl, rfl, by decide +kernel, rfl, by decide +kernel, by decide +kernel⟩
abbrev s_stand_at : Stmt := topS 76
abbrev N_stand_at : List Str := ["moment", "name", "hands"]
theorem sc_stand_at : FnScope N_stand_at ["moment"] (defScope s_stand_at) := ⟨rfl, rfl, rfl, by decide +kernel, rfl, by decide +kernel, by decide +kernel⟩
abbrev s_gained : Stmt := topS 77
abbrev N_gained : List Str := ["ahead", "later", "pairs", "name", "more"]
theorem sc_gained : FnScope N_gained ["ahead", "later"] (defScope s_gained) := ⟨rfl, rfl, rfl, by decide +kernel, rfl, by decide +kernel, by decide +kernel⟩
abbrev s_are_first_rows : Stmt := topS 79
abbrev s_after_call : Stmt := topS 80
abbrev N_after_call : List Str := ["moment", "hand", "row", "name", "rows", "hands"]
theorem sc_after_call : FnScope N_after_call ["moment", "hand", "row"] (defScope s_after_call) := ⟨rfl, rfl, rfl, by decide +kernel, rfl, by decide +kernel, by decide +kernel⟩
abbrev s_after_whisper : Stmt := topS 81
abbrev N_after_whisper : List Str := ["moment", "hands", "row", "name", "rows", "told"]
theorem sc_after_whisper : FnScope N_after_whisper ["moment", "hands", "row"] (defScope s_after_whisper) := ⟨rfl, rfl, rfl, by decide +kernel, rfl, by decide +kernel, by decide +kernel⟩
abbrev s_after_meet : Stmt := topS 82
abbrev s_news : Stmt := topS 83
abbrev s_after_hide : Stmt := topS 84
abbrev s_longer : Stmt := topS 85
abbrev s_after_change : Stmt := topS 86
abbrev s_all_led : Stmt := topS 87
abbrev s_after_come : Stmt := topS 88
abbrev s_after_go : Stmt := topS 89
abbrev s_after : Stmt := topS 91
abbrev N_after : List Str := ["moment", "deed", "step", "things"]
theorem sc_after : FnScope N_after ["moment", "deed"] (defScope s_after) := ⟨rfl, rfl, rfl, by decide +kernel, rfl, by decide +kernel, by decide +kernel⟩
abbrev s__law_deck : Stmt := topS 96
abbrev N__law_deck : List Str := ["_law_script", "_law_cell"]
theorem sc__law_deck : FnScope N__law_deck ["_law_script"] (defScope s__law_deck) := ⟨rfl, rfl, rfl, by decide +kernel, rfl, by decide +kernel, by decide +kernel⟩
abbrev s__law_draw : Stmt := topS 97
abbrev N__law_draw : List Str := ["_law_deck_here", "_law_many", "_law_cell", "_law_place"]
theorem sc__law_draw : FnScope N__law_draw ["_law_deck_here", "_law_many"] (defScope s__law_draw) := ⟨rfl, rfl, rfl, by decide +kernel, rfl, by decide +kernel, by decide +kernel⟩
abbrev s__law_names : Stmt := topS 98
abbrev N__law_names : List Str := ["_law_deck_here", "_law_many", "_law_letters", "_law_size_here", "_law_k", "_law_stem", "_law_spot", "_law_first", "_law_stride", "_law_found", "_law_letter"]
theorem sc__law_names : FnScope N__law_names ["_law_deck_here", "_law_many"] (defScope s__law_names) := ⟨rfl, rfl, rfl, by decide +kernel, rfl, by decide +kernel, by decide +kernel⟩
abbrev s__law_row : Stmt := topS 99
abbrev N__law_row : List Str := ["_law_deck_here", "_law_p", "_law_n", "_law_way", "_law_spot", "_law_k"]
theorem sc__law_row : FnScope N__law_row ["_law_deck_here", "_law_p", "_law_n"] (defScope s__law_row) := ⟨rfl, rfl, rfl, by decide +kernel, rfl, by decide +kernel, by decide +kernel⟩
abbrev s__law_left : Stmt := topS 100
abbrev N__law_left : List Str := ["_law_p", "_law_room_here", "_law_row_here", "_law_found", "_law_one", "_law_k", "_law_first", "_law_share"]
theorem sc__law_left : FnScope N__law_left ["_law_p", "_law_room_here", "_law_row_here"] (defScope s__law_left) := ⟨rfl, rfl, rfl, by decide +kernel, rfl, by decide +kernel, by decide +kernel⟩
abbrev s__law_plain : Stmt := topS 101
abbrev N__law_plain : List Str := ["_law_p", "_law_rows_here", "_law_found", "_law_row_here", "_law_rest", "_law_begun", "_law_k", "_law_turn", "_law_own", "_law_one"]
theorem sc__law_plain : FnScope N__law_plain ["_law_p", "_law_rows_here"] (defScope s__law_plain) := ⟨rfl, rfl, rfl, by decide +kernel, rfl, by decide +kernel, by decide +kernel⟩
abbrev s__law_within : Stmt := topS 102
abbrev N__law_within : List Str := ["_law_p", "_law_room_here", "_law_row_here"]
theorem sc__law_within : FnScope N__law_within ["_law_p", "_law_room_here", "_law_row_here"] (defScope s__law_within) := ⟨rfl, rfl, rfl, by decide +kernel, rfl, by decide +kernel, by decide +kernel⟩
abbrev s__law_made_of : Stmt := topS 103
abbrev N__law_made_of : List Str := ["_law_p", "_law_n", "_law_rows_here", "_law_factors", "_law_found", "_law_row_here", "_law_factor", "_law_k"]
theorem sc__law_made_of : FnScope N__law_made_of ["_law_p", "_law_n", "_law_rows_here", "_law_factors"] (defScope s__law_made_of) := ⟨rfl, rfl, rfl, by decide +kernel, rfl, by decide +kernel, by decide +kernel⟩
abbrev s__law_rows : Stmt := topS 104
abbrev N__law_rows : List Str := ["_law_deck_here", "_law_p", "_law_n", "_law_pool", "_law_found", "_law_k", "_law_row_here", "_law_factors", "_law_spot"]
theorem sc__law_rows : FnScope N__law_rows ["_law_deck_here", "_law_p", "_law_n", "_law_pool"] (defScope s__law_rows) := ⟨rfl, rfl, rfl, by decide +kernel, rfl, by decide +kernel, by decide +kernel⟩
abbrev s__law_stand : Stmt := topS 105
abbrev N__law_stand : List Str := ["_law_deck_here", "_law_limit", "_law_wide", "_law_p", "_law_n", "_law_k", "_law_pool", "_law_heard_here", "_law_hands", "_law_name"]
theorem sc__law_stand : FnScope N__law_stand ["_law_deck_here", "_law_limit", "_law_wide"] (defScope s__law_stand) := ⟨rfl, rfl, rfl, by decide +kernel, rfl, by decide +kernel, by decide +kernel⟩
abbrev s__law_room : Stmt := topS 107
abbrev N__law_room : List Str := ["_law_stand_here", "_law_names_here", "_law_rows_here", "_law_name", "_law_room_here"]
theorem sc__law_room : FnScope N__law_room ["_law_stand_here", "_law_names_here"] (defScope s__law_room) := ⟨rfl, rfl, rfl, by decide +kernel, rfl, by decide +kernel, by decide +kernel⟩
abbrev s__law_known : Stmt := topS 111
abbrev N__law_known : List Str := ["_law_deck_here", "_law_stand_here", "_law_name", "_law_room_here", "_law_row_here", "_law_factors"]
theorem sc__law_known : FnScope N__law_known ["_law_deck_here", "_law_stand_here", "_law_name"] (defScope s__law_known) := ⟨rfl, rfl, rfl, by decide +kernel, rfl, by decide +kernel, by decide +kernel⟩
abbrev s__law_aside : Stmt := topS 112
abbrev N__law_aside : List Str := ["_law_deck_here", "_law_limit", "_law_wide", "_law_turn", "_law_stand_here", "_law_name", "_law_room_here", "_law_names_here", "_law_caller", "_law_learner", "_law_other", "_law_row_here", "_law_rooms"]
theorem sc__law_aside : FnScope N__law_aside ["_law_deck_here", "_law_limit", "_law_wide"] (defScope s__law_aside) := ⟨rfl, rfl, rfl, by decide +kernel, rfl, by decide +kernel, by decide +kernel⟩
abbrev s__law_book : Stmt := topS 113
abbrev N__law_book : List Str := ["_law_stand_here", "_law_p", "_law_n", "_law_heard_here", "_law_hands", "_law_book_here", "_law_row_here"]
theorem sc__law_book : FnScope N__law_book ["_law_stand_here"] (defScope s__law_book) := ⟨rfl, rfl, rfl, by decide +kernel, rfl, by decide +kernel, by decide +kernel⟩
abbrev s__law_told_right : Stmt := topS 114
abbrev N__law_told_right : List Str := ["_law_book_here", "_law_case", "_law_call", "_law_stand_here", "_law_caller", "_law_learner", "_law_other", "_law_row_here", "_law_p", "_law_n", "_law_number", "_law_word", "_law_factors", "_law_worlds", "_law_name", "_law_many"]
theorem sc__law_told_right : FnScope N__law_told_right ["_law_book_here", "_law_case", "_law_call"] (defScope s__law_told_right) := ⟨rfl, rfl, rfl, by decide +kernel, rfl, by decide +kernel, by decide +kernel⟩
abbrev s__law_none_right : Stmt := topS 115
abbrev N__law_none_right : List Str := ["_law_deck_here", "_law_book_here", "_law_case", "_law_stand_here", "_law_caller", "_law_learner", "_law_other", "_law_row_here", "_law_turn"]
theorem sc__law_none_right : FnScope N__law_none_right ["_law_deck_here", "_law_book_here", "_law_case"] (defScope s__law_none_right) := ⟨rfl, rfl, rfl, by decide +kernel, rfl, by decide +kernel, by decide +kernel⟩
abbrev s_law : Stmt := topS 116
abbrev N_law : List Str := ["_law_script", "_law_deck_here", "_law_turn", "_law_case", "_law_stand_here", "_law_caller", "_law_learner", "_law_other", "_law_row_here", "_law_book_here", "_law_word", "_law_thing"]
theorem sc_law : FnScope N_law ["_law_script"] (defScope s_law) := ⟨rfl, rfl, rfl, by decide +kernel, rfl, by decide +kernel, by decide +kernel⟩
abbrev s_Moment___init__ : Stmt := inClass (topS 71) 0
abbrev N_Moment___init__ : List Str := ["self", "p", "n", "called", "hands"]
theorem sc_Moment___init__ : FnScope N_Moment___init__ ["self", "p", "n", "called", "hands"] (defScope s_Moment___init__) := ⟨rfl, rfl, rfl, by decide +kernel, rfl, by decide +kernel, by decide +kernel⟩
abbrev s_Book___init__ : Stmt := inClass (topS 94) 0
abbrev N_Book___init__ : List Str := ["self", "p", "n", "hands"]
theorem sc_Book___init__ : FnScope N_Book___init__ ["self", "p", "n", "hands"] (defScope s_Book___init__) := ⟨rfl, rfl, rfl, by decide +kernel, rfl, by decide +kernel, by decide +kernel⟩
abbrev s_Book___len__ : Stmt := inClass (topS 94) 2
abbrev N_Book___len__ : List Str := ["self"]
theorem sc_Book___len__ : FnScope N_Book___len__ ["self"] (defScope s_Book___len__) := ⟨rfl, rfl, rfl, by decide +kernel, rfl, by decide +kernel, by decide +kernel⟩
abbrev s_Book_now : Stmt := inClass (topS 94) 4
abbrev N_Book_now : List Str := ["self"]
theorem sc_Book_now : FnScope N_Book_now ["self"] (defScope s_Book_now) := ⟨rfl, rfl, rfl, by decide +kernel, rfl, by decide +kernel, by decide +kernel⟩
abbrev s_Book_refuse_amid : Stmt := inClass (topS 94) 5
abbrev N_Book_refuse_amid : List Str := ["self"]
theorem sc_Book_refuse_amid : FnScope N_Book_refuse_amid ["self"] (defScope s_Book_refuse_amid) := ⟨rfl, rfl, rfl, by decide +kernel, rfl, by decide +kernel, by decide +kernel⟩
abbrev s_Book_perform : Stmt := inClass (topS 94) 6
abbrev N_Book_perform : List Str := ["self", "deed", "moment"]
theorem sc_Book_perform : FnScope N_Book_perform ["self", "deed"] (defScope s_Book_perform) := ⟨rfl, rfl, rfl, by decide +kernel, rfl, by decide +kernel, by decide +kernel⟩
abbrev s_Book_call : Stmt := inClass (topS 94) 7
abbrev N_Book_call : List Str := ["self", "hand", "row"]
theorem sc_Book_call : FnScope N_Book_call ["self", "hand", "row"] (defScope s_Book_call) := ⟨rfl, rfl, rfl, by decide +kernel, rfl, by decide +kernel, by decide +kernel⟩
abbrev s_Book_back : Stmt := inClass (topS 94) 14
abbrev N_Book_back : List Str := ["self"]
theorem sc_Book_back : FnScope N_Book_back ["self"] (defScope s_Book_back) := ⟨rfl, rfl, rfl, by decide +kernel, rfl, by decide +kernel, by decide +kernel⟩
abbrev s_Book_moment_at : Stmt := inClass (topS 94) 18
abbrev N_Book_moment_at : List Str := ["self", "at"]
theorem sc_Book_moment_at : FnScope N_Book_moment_at ["self", "at"] (defScope s_Book_moment_at) := ⟨rfl, rfl, rfl, by decide +kernel, rfl, by decide +kernel, by decide +kernel⟩
abbrev s_Book_moment_of : Stmt := inClass (topS 94) 19
abbrev N_Book_moment_of : List Str := ["self", "hands", "least", "at", "moment"]
theorem sc_Book_moment_of : FnScope N_Book_moment_of ["self", "hands", "least", "at"] (defScope s_Book_moment_of) := ⟨rfl, rfl, rfl, by decide +kernel, rfl, by decide +kernel, by decide +kernel⟩
abbrev s_Book_heard : Stmt := inClass (topS 94) 21
abbrev N_Book_heard : List Str := ["self", "hands", "at"]
theorem sc_Book_heard : FnScope N_Book_heard ["self", "hands", "at"] (defScope s_Book_heard) := ⟨rfl, rfl, rfl, by decide +kernel, rfl, by decide +kernel, by decide +kernel⟩
abbrev s_Book_knows : Stmt := inClass (topS 94) 24
abbrev N_Book_knows : List Str := ["self", "hands", "row", "at", "moment"]
theorem sc_Book_knows : FnScope N_Book_knows ["self", "hands", "row", "at"] (defScope s_Book_knows) := ⟨rfl, rfl, rfl, by decide +kernel, rfl, by decide +kernel, by decide +kernel⟩
abbrev s_Book_why : Stmt := inClass (topS 94) 25
abbrev N_Book_why : List Str := ["self", "hands", "row", "at", "moment"]
theorem sc_Book_why : FnScope N_Book_why ["self", "hands", "row", "at"] (defScope s_Book_why) := ⟨rfl, rfl, rfl, by decide +kernel, rfl, by decide +kernel, by decide +kernel⟩
abbrev s_Book_learned : Stmt := inClass (topS 94) 26
abbrev N_Book_learned : List Str := ["self", "number"]
theorem sc_Book_learned : FnScope N_Book_learned ["self", "number"] (defScope s_Book_learned) := ⟨rfl, rfl, rfl, by decide +kernel, rfl, by decide +kernel, by decide +kernel⟩
abbrev s_Book_stand : Stmt := inClass (topS 94) 30
abbrev N_Book_stand : List Str := ["self", "at"]
theorem sc_Book_stand : FnScope N_Book_stand ["self", "at"] (defScope s_Book_stand) := ⟨rfl, rfl, rfl, by decide +kernel, rfl, by decide +kernel, by decide +kernel⟩
structure Top (K : PySem.W.Frag) (mg : Str → Option Value) : Prop where
  b_abs : mg "abs" = none
  b_all : mg "all" = none
  b_bool : mg "bool" = none
  b_enumerate : mg "enumerate" = none
  b_int : mg "int" = none
  b_isinstance : mg "isinstance" = none
  b_len : mg "len" = none
  b_list : mg "list" = none
  b_max : mg "max" = none
  b_range : mg "range" = none
  b_sorted : mg "sorted" = none
  b_str : mg "str" = none
  b_sum : mg "sum" = none
  b_tuple : mg "tuple" = none
  b_zip : mg "zip" = none
  c_LETTERS : ∃ t, mg "LETTERS" = some (.str "abcdefghijklmnopqrstuvwxyz" t)
  c_DEEDS : ∃ t, mg "DEEDS" = some (.int 60 t)
  k_Moment : ClsN K mg "Moment"
  na_Moment_p : NoAttr K (adr mg "Moment") "p"
  na_Moment_n : NoAttr K (adr mg "Moment") "n"
  na_Moment_called : NoAttr K (adr mg "Moment") "called"
  na_Moment_hands : NoAttr K (adr mg "Moment") "hands"
  k_Book : ClsN K mg "Book"
  na_Book_made : NoAttr K (adr mg "Book") "made"
  na_Book_moments : NoAttr K (adr mg "Book") "moments"
  na_Book_done : NoAttr K (adr mg "Book") "done"
  na_Book_trials : NoAttr K (adr mg "Book") "trials"
  na_Book_amid : NoAttr K (adr mg "Book") "amid"
  d_Moment___init__ : DfM K mg "Moment" "__init__" "Moment.__init__" s_Moment___init__ ["self", "p", "n", "called", "hands"] []
  d_Book___init__ : DfM K mg "Book" "__init__" "Book.__init__" s_Book___init__ ["self", "p", "n", "hands"] []
  d_Book___len__ : DfM K mg "Book" "__len__" "Book.__len__" s_Book___len__ ["self"] []
  d_Book_now : DfM K mg "Book" "now" "Book.now" s_Book_now ["self"] []
  d_Book_refuse_amid : DfM K mg "Book" "refuse_amid" "Book.refuse_amid" s_Book_refuse_amid ["self"] []
  d_Book_perform : DfM K mg "Book" "perform" "Book.perform" s_Book_perform ["self", "deed"] []
  d_Book_call : DfM K mg "Book" "call" "Book.call" s_Book_call ["self", "hand", "row"] []
  d_Book_back : DfM K mg "Book" "back" "Book.back" s_Book_back ["self"] []
  d_Book_moment_at : DfM K mg "Book" "moment_at" "Book.moment_at" s_Book_moment_at ["self", "at"] []
  d_Book_moment_of : DfM K mg "Book" "moment_of" "Book.moment_of" s_Book_moment_of ["self", "hands", "least", "at"] []
  d_Book_heard : DfM K mg "Book" "heard" "Book.heard" s_Book_heard ["self", "hands", "at"] [.non]
  d_Book_knows : DfM K mg "Book" "knows" "Book.knows" s_Book_knows ["self", "hands", "row", "at"] [.non]
  d_Book_why : DfM K mg "Book" "why" "Book.why" s_Book_why ["self", "hands", "row", "at"] [.non]
  d_Book_learned : DfM K mg "Book" "learned" "Book.learned" s_Book_learned ["self", "number"] []
  d_Book_stand : DfM K mg "Book" "stand" "Book.stand" s_Book_stand ["self", "at"] [.non]
  d_is_name : Df K mg "is_name" s_is_name ["thing"]
  d_is_rising : Df K mg "is_rising" s_is_rising ["things"]
  d_are_names : Df K mg "are_names" s_are_names ["thing"]
  d_is_number : Df K mg "is_number" s_is_number ["thing"]
  d_is_rest : Df K mg "is_rest" s_is_rest ["p", "thing"]
  d_contrary : Df K mg "contrary" s_contrary ["p", "a"]
  d_is_row : Df K mg "is_row" s_is_row ["p", "n", "thing"]
  d_added : Df K mg "added" s_added ["p", "one", "other"]
  d_times : Df K mg "times" s_times ["p", "a", "row"]
  d_worth : Df K mg "worth" s_worth ["p", "row", "world"]
  d_made_of : Df K mg "made_of" s_made_of ["p", "n", "rows", "factors"]
  d_check_hand : Df K mg "check_hand" s_check_hand ["there", "hand"]
  d_check_hands : Df K mg "check_hands" s_check_hands ["there", "hands", "least"]
  d_check_row : Df K mg "check_row" s_check_row ["p", "n", "row"]
  d_is_noughts : Df K mg "is_noughts" s_is_noughts ["row"]
  d_first_place : Df K mg "first_place" s_first_place ["row"]
  d_cleared : Df K mg "cleared" s_cleared ["p", "plain", "row"]
  d_left_of : Df K mg "left_of" s_left_of ["p", "room", "row"]
  d_widened : Df K mg "widened" s_widened ["p", "room", "row"]
  d_room_of : Df K mg "room_of" s_room_of ["p", "n", "rows"]
  d_within : Df K mg "within" s_within ["p", "room", "row"]
  d_first_outside : Df K mg "first_outside" s_first_outside ["p", "room", "rows"]
  d_inside : Df K mg "inside" s_inside ["p", "one", "other"]
  d_joined : Df K mg "joined" s_joined ["p", "n", "one", "other"]
  d_shared : Df K mg "shared" s_shared ["p", "n", "one", "other"]
  d_across : Df K mg "across" s_across ["p", "n", "room"]
  d_across_at : Df K mg "across_at" s_across_at ["p", "n", "room", "at"]
  d_names_of : Df K mg "names_of" s_names_of ["stand"]
  d_room_in : Df K mg "room_in" s_room_in ["stand", "names"]
  d_aside : Df K mg "aside" s_aside ["stand", "caller", "learner", "other", "row"]
  d_rooms_of_three : Df K mg "rooms_of_three" s_rooms_of_three ["stand", "caller", "learner", "other"]
  d_way_of : Df K mg "way_of" s_way_of ["p", "n", "rooms", "row"]
  d_is_aside : Df K mg "is_aside" s_is_aside ["p", "rooms", "row", "call"]
  d_is_barred : Df K mg "is_barred" s_is_barred ["p", "n", "rooms", "row"]
  d_call_aside : Df K mg "call_aside" s_call_aside ["p", "n", "rooms", "row"]
  d_led : Df K mg "led" s_led ["p", "place", "row", "one"]
  d_makes : Df K mg "makes" s_makes ["p", "n", "rows", "row"]
  d_mark : Df K mg "mark" s_mark ["size", "at"]
  d_makes_hold : Df K mg "makes_hold" s_makes_hold ["p", "n", "rows", "row", "thing"]
  d_parted : Df K mg "parted" s_parted ["p", "n", "rows", "row"]
  d_parted_hold : Df K mg "parted_hold" s_parted_hold ["p", "n", "rows", "row", "thing"]
  d_needed : Df K mg "needed" s_needed ["p", "n", "rows"]
  d_names_at : Df K mg "names_at" s_names_at ["moment"]
  d_heard_at : Df K mg "heard_at" s_heard_at ["moment", "names"]
  d_known_at : Df K mg "known_at" s_known_at ["moment", "names"]
  d_why_at : Df K mg "why_at" s_why_at ["moment", "names", "row"]
  d_stand_at : Df K mg "stand_at" s_stand_at ["moment"]
  d_gained : Df K mg "gained" s_gained ["ahead", "later"]
  d_are_first_rows : Df K mg "are_first_rows" s_are_first_rows ["moment", "thing"]
  d_after_call : Df K mg "after_call" s_after_call ["moment", "hand", "row"]
  d_after_whisper : Df K mg "after_whisper" s_after_whisper ["moment", "hands", "row"]
  d_after_meet : Df K mg "after_meet" s_after_meet ["moment", "hands"]
  d_news : Df K mg "news" s_news ["moment", "rows", "room"]
  d_after_hide : Df K mg "after_hide" s_after_hide ["moment"]
  d_longer : Df K mg "longer" s_longer ["rows"]
  d_after_change : Df K mg "after_change" s_after_change ["moment", "place", "row"]
  d_all_led : Df K mg "all_led" s_all_led ["p", "place", "row", "rows"]
  d_after_come : Df K mg "after_come" s_after_come ["moment", "hand", "rows"]
  d_after_go : Df K mg "after_go" s_after_go ["moment", "hand"]
  d_after : Df K mg "after" s_after ["moment", "deed"]
  d__law_deck : Df K mg "_law_deck" s__law_deck ["_law_script"]
  d__law_draw : Df K mg "_law_draw" s__law_draw ["_law_deck_here", "_law_many"]
  d__law_names : Df K mg "_law_names" s__law_names ["_law_deck_here", "_law_many"]
  d__law_row : Df K mg "_law_row" s__law_row ["_law_deck_here", "_law_p", "_law_n"]
  d__law_left : Df K mg "_law_left" s__law_left ["_law_p", "_law_room_here", "_law_row_here"]
  d__law_plain : Df K mg "_law_plain" s__law_plain ["_law_p", "_law_rows_here"]
  d__law_within : Df K mg "_law_within" s__law_within ["_law_p", "_law_room_here", "_law_row_here"]
  d__law_made_of : Df K mg "_law_made_of" s__law_made_of ["_law_p", "_law_n", "_law_rows_here", "_law_factors"]
  d__law_rows : Df K mg "_law_rows" s__law_rows ["_law_deck_here", "_law_p", "_law_n", "_law_pool"]
  d__law_stand : Df K mg "_law_stand" s__law_stand ["_law_deck_here", "_law_limit", "_law_wide"]
  d__law_room : Df K mg "_law_room" s__law_room ["_law_stand_here", "_law_names_here"]
  d__law_known : Df K mg "_law_known" s__law_known ["_law_deck_here", "_law_stand_here", "_law_name"]
  d__law_aside : Df K mg "_law_aside" s__law_aside ["_law_deck_here", "_law_limit", "_law_wide"]
  d__law_book : Df K mg "_law_book" s__law_book ["_law_stand_here"]
  d__law_told_right : Df K mg "_law_told_right" s__law_told_right ["_law_book_here", "_law_case", "_law_call"]
  d__law_none_right : Df K mg "_law_none_right" s__law_none_right ["_law_deck_here", "_law_book_here", "_law_case"]
section
variable {P : Program} {w : World} {K : PySem.W.Frag} {mg : Str → Option Value} {base : Heap}
def sp_whole (K : PySem.W.Frag) : Sp := fun vs H Q _ => ∃ (v : V) (k : Kd), vs = [v] ∧ KdOf K H v k ∧ Q (.bl (decide (k = .int))) H
def sp_contr : Sp := fun vs H Q _ => ∃ p a : Int, vs = [.int p, .int a] ∧ Fld p ∧ p ≤ 1000 ∧ 1 ≤ a ∧ a < p ∧ Q (.int (ctr p a)) H
theorem ok_contrary (T : Top K mg) : Ok P w K mg base 1 "contrary" ["p", "a"] sp_contr := by
  refine T.d_contrary.ok sc_contrary (fun vs H Q E h => ?_) (fun f cdv A outer s H vs Q E hr h => ?_)
  · obtain ⟨p, a, rfl, _⟩ := h
    rfl
  · obtain ⟨p, a, rfl, hF, h2, h3, h4, q⟩ := h
    have h1 := hF.1
    refine ⟨_, ((pss_cons (ps_for PassesOwn.never (by rfl) (pi_range2 (by rfl) T.b_range (pa_cons pe_int (pa_cons (pv 0) pa_nil))) (pg_name (i := 2) sc_contrary.nd rfl (.inl rfl))
        (pss_one (ps_if (pt_cmpR op_eq (pe_op op_mod (pe_op op_mul (pv 1) (pv 2)) (pv 0)) pe_int (nomark _))
          (pss_one (ps_ret (pv 2)))
          pss_nil)))
      (pss_one (ps_ret pe_non)))), ?_⟩
    refine ⟨.int p, rfl, 1, p, rfl, ⟨by omega, by omega, by omega, by omega⟩, for_range (lo := 1) (n := (p - 1).toNat) (fun i σ H' => H' = H ∧ (∃ y, σ = [some (.int p), some (.int a), y]) ∧ ∀ b : Int, 1 ≤ b → b < 1 + i → a * b % p ≠ 1) ⟨rfl, ⟨none, rfl⟩, fun b _ _ => by omega⟩ (fun i σ H' hi hW => ?_) (fun σ H' hW => ?_)⟩
    · obtain ⟨rfl, ⟨y, rfl⟩, hn⟩ := hW
      refine ⟨.int a, rfl, .int (1 + i), rfl, a, 1 + i, rfl, rfl, .inl ⟨by omega, by omega⟩, .int p, rfl, _, p, rfl, rfl, by omega, rfl, _, rfl, ite2 (fun e => ?_) (fun e => ?_)⟩
      · have e1 : a * (1 + i) % p = 1 := V.int.inj (of_decide_eq_true e)
        refine ⟨.int (1 + i), rfl, ?_⟩
        rw [ctr_uniq hF h3 h4 (show (1 : Int) ≤ 1 + i by omega) (by omega) e1]
        exact q
      · have e1 : a * (1 + i) % p ≠ 1 := fun z => e (decide_eq_true (congrArg V.int z))
        refine ⟨rfl, ⟨_, rfl⟩, fun b hb1 hb2 => ?_⟩
        by_cases z : b = 1 + i
        · subst z; exact e1
        · exact hn b hb1 (by omega)
    · obtain ⟨rfl, ⟨y, rfl⟩, hn⟩ := hW
      obtain ⟨b, b1, b2, b3⟩ := hF.2 a h3 h4
      exact absurd b3 (hn b b1 (by omega))
def sp_added (K : PySem.W.Frag) : Sp := fun vs H Q _ => ∃ (a b : Addr) (x y : List Int) (p : Int), vs = [.int p, .ref a, .ref b] ∧ SqT K H a (x.map V.int) ∧ SqT K H b (y.map V.int) ∧ x.length ≤ 1000 ∧ 0 < p ∧
  ∀ H' l, Same H H' → H l = none → H' l = some (.tup ((addR p x y).map V.int)) → Q (.ref l) H'
theorem ok_added (T : Top K mg) : Ok P w K mg base 1 "added" ["p", "one", "other"] (sp_added K) := by
  refine T.d_added.ok sc_added (fun vs H Q E h => ?_) (fun f cdv A outer s H vs Q E hr h => ?_)
  · obtain ⟨a, b, x, y, p, rfl, _⟩ := h
    rfl
  · obtain ⟨a, b, x, y, p, rfl, hA, hB, hz, hp, q⟩ := h
    refine ⟨_, ((pss_one (ps_ret (pe_callTy call_tuple_of (by rfl) T.b_tuple (by decide +kernel) (pa_cons (pe_lc (own := [("a", 3), ("b", 4)]) (g := gTup K 2 (gCons (gName 3) (gCons (gName 4) gNil))) (by rfl) sc_added.nd (RZ.pi_zipA (by rfl) T.b_zip (pa_cons (pv 1) (pa_cons (pv 2) pa_nil))) (blkOk_by (own := [("a", 3), ("b", 4)]) (N := N_added) (sc := defScope s_added) (by decide +kernel)) (fun _ _ _ _ _ => (pg_tup (by rfl) (pgs_cons (pg_name (i := 3) sc_added.nd rfl (.inl rfl)) (pgs_cons (pg_name (i := 4) sc_added.nd rfl (.inl rfl)) pgs_nil)))) (fun _ _ _ _ _ => pts_nil) (fun _ _ _ _ _ => (pe_op op_mod (pe_op op_add (pv 3) (pv 4)) (pv 0)))) pa_nil))))), ?_⟩
    refine ⟨.ref a, rfl, .ref b, rfl, a, b, _, _, rfl, .inr ⟨hA, hB, lc_zipI (fun u v => (u + v) % p) hA hB hz (fun _ _ => rfl) (fun u v H' Q' _ _ _ hQ => ?_) (fun D H' sm nD eD => ?_)⟩⟩
    · exact ⟨.int u, rfl, .int v, rfl, u, v, rfl, rfl, .int p, rfl, _, p, rfl, rfl, hp, hQ⟩
    · refine ⟨D, _, rfl, .inl ⟨.inl (.inl eD), fun l nl => ?_⟩⟩
      exact q _ l (sm.trans (same_upd nl)) (sm.free nl) upd_same
def sp_times (K : PySem.W.Frag) : Sp := fun vs H Q _ => ∃ (b : Addr) (x : List Int) (p m : Int), vs = [.int p, .int m, .ref b] ∧ SqT K H b (x.map V.int) ∧ x.length ≤ 1000 ∧ 0 < p ∧ -1000000 ≤ m ∧ m ≤ 1000000 ∧
  ∀ H' l, Same H H' → H l = none → H' l = some (.tup ((timesR p m x).map V.int)) → Q (.ref l) H'
theorem ok_times (T : Top K mg) : Ok P w K mg base 1 "times" ["p", "a", "row"] (sp_times K) := by
  refine T.d_times.ok sc_times (fun vs H Q E h => ?_) (fun f cdv A outer s H vs Q E hr h => ?_)
  · obtain ⟨b, x, p, m, rfl, _⟩ := h
    rfl
  · obtain ⟨b, x, p, m, rfl, hB, hz, hp, hm1, hm2, q⟩ := h
    refine ⟨_, ((pss_one (ps_ret (pe_callTy call_tuple_of (by rfl) T.b_tuple (by decide +kernel) (pa_cons (pe_lc (own := [("rest", 3)]) (g := gName 3) (by rfl) sc_times.nd (pi_tup (pv 2)) (blkOk_by (own := [("rest", 3)]) (N := N_times) (sc := defScope s_times) (by decide +kernel)) (fun _ _ _ _ _ => (pg_name (i := 3) sc_times.nd rfl (.inl rfl))) (fun _ _ _ _ _ => pts_nil) (fun _ _ _ _ _ => (pe_op op_mod (pe_op op_mul (pv 1) (pv 3)) (pv 0)))) pa_nil))))), ?_⟩
    refine ⟨.ref b, rfl, b, rfl, ⟨_, hB⟩, lc_tupI (fun v => m * v % p) hB hz (fun _ => rfl) (fun v H' Q' _ _ hQ => ?_) (fun D H' sm nD eD => ?_)⟩
    · exact ⟨.int m, rfl, .int v, rfl, m, v, rfl, rfl, .inl ⟨by omega, by omega⟩, .int p, rfl, _, p, rfl, rfl, hp, hQ⟩
    · refine ⟨D, _, rfl, .inl ⟨.inl (.inl eD), fun l nl => ?_⟩⟩
      exact q _ l (sm.trans (same_upd nl)) (sm.free nl) upd_same
def sp_worth (K : PySem.W.Frag) : Sp := fun vs H Q _ => ∃ (a b : Addr) (x y : List Int) (p : Int), vs = [.int p, .ref a, .ref b] ∧ SqT K H a (x.map V.int) ∧ SqT K H b (y.map V.int) ∧ x.length ≤ 1000 ∧ 0 < p ∧ p ≤ 1000000 ∧ RowOk p x ∧
  ∀ H', Same H H' → Q (.int (worthR p x y)) H'
theorem ok_worth (T : Top K mg) : Ok P w K mg base 1 "worth" ["p", "row", "world"] (sp_worth K) := by
  refine T.d_worth.ok sc_worth (fun vs H Q E h => ?_) (fun f cdv A outer s H vs Q E hr h => ?_)
  · obtain ⟨a, b, x, y, p, rfl, _⟩ := h
    rfl
  · obtain ⟨a, b, x, y, p, rfl, hA, hB, hz, hp, hp2, ro, q⟩ := h
    refine ⟨_, ((pss_one (ps_ret (pe_op op_mod (pe_callB (cr_sum (by rfl)) (by rfl) T.b_sum (by decide +kernel) (pa_cons (pe_lc (own := [("a", 3), ("b", 4)]) (g := gTup K 2 (gCons (gName 3) (gCons (gName 4) gNil))) (by rfl) sc_worth.nd (RZ.pi_zipA (by rfl) T.b_zip (pa_cons (pv 1) (pa_cons (pv 2) pa_nil))) (blkOk_by (own := [("a", 3), ("b", 4)]) (N := N_worth) (sc := defScope s_worth) (by decide +kernel)) (fun _ _ _ _ _ => (pg_tup (by rfl) (pgs_cons (pg_name (i := 3) sc_worth.nd rfl (.inl rfl)) (pgs_cons (pg_name (i := 4) sc_worth.nd rfl (.inl rfl)) pgs_nil)))) (fun _ _ _ _ _ => pts_nil) (fun _ _ _ _ _ => (pe_op op_mul (pv 3) (pv 4)))) pa_nil)) (pv 0))))), ?_⟩
    refine ⟨.ref a, rfl, .ref b, rfl, a, b, _, _, rfl, .inr ⟨hA, hB, lc_zipI (fun u v => u * v) hA hB hz (fun _ _ => rfl) (fun u v H' Q' hu _ _ hQ => ?_) (fun D H' sm nD eD => ?_)⟩⟩
    · have := ro u hu
      exact ⟨.int u, rfl, .int v, rfl, u, v, rfl, rfl, .inl ⟨by omega, by omega⟩, hQ⟩
    · exact ⟨D, _, rfl, .inl (.inl eD), .int p, rfl, _, p, rfl, rfl, hp, q _ sm⟩
def sp_made (K : PySem.W.Frag) : Sp := fun vs H Q _ => ∃ (a b : Addr) (ws : List V) (rs : List (List Int)) (fs : List Int) (p n : Int), vs = [.int p, .int n, .ref a, .ref b] ∧ SqT K H a ws ∧ DpAll K H ws (rs.map rowD) ∧ SqT K H b (fs.map V.int) ∧ rs.length = fs.length ∧ 0 < p ∧ 1 ≤ n ∧ n ≤ 1000 ∧ (∀ r ∈ rs, (r.length : Int) = n) ∧ (∀ f ∈ fs, 0 ≤ f ∧ f ≤ 1000000) ∧
  ∀ H' l, Same H H' → SqT K H' l ((madeR p (List.replicate n.toNat 0) (rs.zip fs)).map V.int) → Q (.ref l) H'
theorem ok_made_of (T : Top K mg) : Ok P w K mg base 2 "made_of" ["p", "n", "rows", "factors"] (sp_made K) := by
  have O_added := ok_added (P := P) (w := w) (base := base) T
  have O_times := ok_times (P := P) (w := w) (base := base) T
  refine T.d_made_of.ok sc_made_of (fun vs H Q E h => ?_) (fun f cdv A outer s H vs Q E hr h => ?_)
  · obtain ⟨a, b, ws, rs, fs, p, n, rfl, _⟩ := h
    rfl
  · obtain ⟨a, b, ws, rs, fs, p, n, rfl, hA, hR, hB, hl, hp, hn1, hn2, hln, hf, q⟩ := h
    refine ⟨_, ((pss_cons (ps_set (i := 4) sc_made_of.nd rfl (.inl rfl) (pe_op op_repB (pe_tup (pa_cons pe_int pa_nil)) (pv 1)))
      (pss_cons (ps_for PassesOwn.never (by rfl) (RZ.pi_zipA (by rfl) T.b_zip (pa_cons (pv 2) (pa_cons (pv 3) pa_nil))) (pg_tup (by rfl) (pgs_cons (pg_name (i := 5) sc_made_of.nd rfl (.inl rfl)) (pgs_cons (pg_name (i := 6) sc_made_of.nd rfl (.inl rfl)) pgs_nil)))
        (pss_one (ps_set (i := 4) sc_made_of.nd rfl (.inl rfl) (pe_callO O_added (hr.mono (by omega)) (by rfl) (pa_cons (pv 0) (pa_cons (pv 4) (pa_cons (pe_callO O_times (hr.mono (by omega)) (by rfl) (pa_cons (pv 0) (pa_cons (pv 6) (pa_cons (pv 5) pa_nil)))) pa_nil)))))))
      (pss_one (ps_ret (pv 4)))))), ?_⟩
    refine ⟨sz1000 (by decide : (1 : Nat) ≤ 1000), fun z nz => ?_⟩
    generalize h1 : upd H z _ = H1
    obtain ⟨s1, e1⟩ := new_of h1 nz
    have e1 : H1 z = some (.tup ([0].map V.int)) := e1
    refine ⟨.int n, rfl, z, n, _, rfl, rfl, .inl (.inl e1), List.cons_ne_nil _ _, hn1, hn2, by decide, fun y H2 s2 hy => ?_⟩
    have hy : SqT K H2 y ((List.replicate n.toNat (0 : Int)).map V.int) := (rep_int n.toNat 0) ▸ hy
    have s12 := s1.trans s2
    have hR2 := dpAll_same s12 _ _ hR
    have lw : ws.length = rs.length := by
      have := dpAll_len hR
      rw [List.length_map] at this
      exact this
    refine ⟨.ref a, rfl, .ref b, rfl, a, b, _, _, rfl, .inr ⟨Same.tup s12 hA, Same.tup s12 hB, ?_⟩⟩
    refine for_it (walk_zipT (K := K) (a := a) (b := b) (xs := ws) (ys := fs.map V.int) rfl) (fun i σ H' => Same H2 H' ∧ ∃ (l : Addr) (y5 y6 : Option V), SqT K H' l ((madeR p (List.replicate n.toNat 0) ((rs.zip fs).take i)).map V.int) ∧ σ = [some (.int p), some (.int n), some (.ref a), some (.ref b), some (.ref l), y5, y6]) ⟨Same.refl H2, y, none, none, hy, rfl⟩ (fun i σ H' _ hW => ⟨Same.tup (s12.trans hW.1) hA, Same.tup (s12.trans hW.1) hB⟩) (fun i x σ H3 H4 hi hW hY => ?_) (fun σ H' hW => ?_)
    · obtain ⟨sm, l, y5, y6, hl3, rfl⟩ := hW
      obtain ⟨Ta, x1, f1, rfl, nT, rfl, g1, g2⟩ := hY
      have g1 : ws[i]? = some x1 := g1
      have g2 : (fs.map V.int)[i]? = some f1 := g2
      obtain ⟨c, r, rfl, gr, mr, hc⟩ := dpAll_row hR2 g1
      rw [List.getElem?_map] at g2
      cases hfi : fs[i]? with
      | none => rw [hfi] at g2; cases g2
      | some f =>
        rw [hfi] at g2
        have ef : f1 = V.int f := (Option.some.inj g2).symm
        subst ef
        have mf := hf f (List.mem_of_getElem? hfi)
        have sT : Same H3 (upd H3 Ta (.tup [.ref c, .int f])) := same_upd nT
        refine ⟨Ta, [.ref c, .int f], rfl, .inl (.inl upd_same), rfl, .ref c, [.int f], rfl, .int f, [], rfl, rfl, ?_⟩
        have hc4 := Same.tup (sm.trans sT) hc
        have hl4 := Same.tup sT hl3
        have lr := hln r mr
        refine ⟨.int p, rfl, .ref l, rfl, .int p, rfl, .int f, rfl, .ref c, rfl, c, r, p, f, rfl, hc4, by omega, hp, by omega, by omega, fun H5 l5 s5 n5 e5 => ?_⟩
        have zl : (List.replicate n.toNat (0 : Int)).length = n.toNat := List.length_replicate
        have ml : (madeR p (List.replicate n.toNat 0) ((rs.zip fs).take i)).length = n.toNat := made_len p n.toNat _ _ zl fun x hx => by
          have h1 := List.mem_of_mem_take hx
          have h2 := hln x.1 (List.of_mem_zip h1).1
          omega
        refine ⟨l, l5, _, timesR p f r, p, rfl, Same.tup s5 hl4, .inl (.inl e5), by omega, hp, fun H6 l6 s6 n6 e6 => ?_⟩
        have gz : (rs.zip fs)[i]? = some (r, f) := by
          rw [List.getElem?_zip_eq_some]
          exact ⟨gr, hfi⟩
        refine ⟨((sm.trans sT).trans s5).trans s6, l6, _, _, .inl (.inl ?_), rfl⟩
        rw [e6, made_take gz, add_times]
    · obtain ⟨sm, l, y5, y6, hl3, rfl⟩ := hW
      refine ⟨.ref l, rfl, q H' l (s12.trans sm) ?_⟩
      rw [List.take_of_length_le] at hl3
      · exact hl3
      · rw [List.length_zip, List.length_map]
        omega
theorem ok_is_number (T : Top K mg) : Ok P w K mg base 1 "is_number" ["thing"] (sp_whole K) := by
  refine T.d_is_number.ok sc_is_number (fun vs H Q E h => ?_) (fun f cdv A outer s H vs Q E hr h => ?_)
  · obtain ⟨v, k, rfl, _⟩ := h
    rfl
  · obtain ⟨v, k, rfl, ty, q⟩ := h
    refine ⟨_, ((pss_one (ps_ret (pe_and (pe_callB call_isi (by rfl) T.b_isinstance (by decide +kernel) (pa_cons (pv 0) (pa_cons (pe_bltn (v := .ty "int") (u := .type "int") (by rfl) T.b_int (by decide +kernel) rfl) pa_nil))) (pe_one (pe_not (pe_callB call_isi (by rfl) T.b_isinstance (by decide +kernel) (pa_cons (pv 0) (pa_cons (pe_bltn (v := .ty "bool") (u := .type "bool") (by rfl) T.b_bool (by decide +kernel) rfl) pa_nil))))))))), ?_⟩
    refine ⟨v, rfl, v, .ty "int", _, _, _, rfl, .ty "int", ty, kit_int k, _, rfl, ?_⟩
    cases k <;> first | exact q | exact ⟨v, rfl, v, .ty "bool", _, _, _, rfl, .ty "bool", ty, kit_bool _, _, rfl, q⟩
def sp_is_rest (K : PySem.W.Frag) : Sp := fun vs H Q _ => ∃ (p : Int) (v : V) (e : PyData), vs = [.int p, v] ∧ Rep K H NB v e ∧ Q (.bl (restD p e)) H
theorem ok_is_rest (T : Top K mg) : Ok P w K mg base 2 "is_rest" ["p", "thing"] (sp_is_rest K) := by
  have O_is_number := ok_is_number (P := P) (w := w) (base := base) T
  refine T.d_is_rest.ok sc_is_rest (fun vs H Q E h => ?_) (fun f cdv A outer s H vs Q E hr h => ?_)
  · obtain ⟨p, v, e, rfl, _⟩ := h
    rfl
  · obtain ⟨p, v, e, rfl, hv, q⟩ := h
    refine ⟨_, ((pss_one (ps_ret (pe_and (pe_callO O_is_number (hr.mono (by omega)) (by rfl) (pa_cons (pv 1) pa_nil)) (pe_one (pe_chain op_le op_lt pe_int (pv 1) (pv 0))))))), ?_⟩
    refine ⟨v, rfl, v, kdOf e, rfl, hv.kd, _, rfl, ?_⟩
    cases hv with
    | int i =>
      refine iteT ⟨.int i, rfl, 0, i, rfl, rfl, _, rfl, ?_⟩
      by_cases h0 : 0 ≤ i
      · rw [decide_eq_true h0]
        refine iteT ⟨.int p, rfl, i, p, rfl, rfl, ?_⟩
        have e : restD p (.int i) = decide (i < p) := by
          show (decide (0 ≤ i) && decide (i < p)) = decide (i < p)
          rw [decide_eq_true h0, Bool.true_and]
        rw [e] at q
        exact q
      · rw [decide_eq_false h0]
        refine iteF ?_
        have e : restD p (.int i) = false := by
          show (decide (0 ≤ i) && decide (i < p)) = false
          rw [decide_eq_false h0, Bool.false_and]
        rw [e] at q
        exact q
    | _ => exact iteF q
def sp_is_row (K : PySem.W.Frag) : Sp := fun vs H Q _ => ∃ (p n : Int) (v : V) (e : PyData), vs = [.int p, .int n, v] ∧ Rep K H NB v e ∧ lenOk e ∧ ∀ H', Same H H' → Q (.bl (isRowD p n e)) H'
theorem ok_is_row (T : Top K mg) : Ok P w K mg base 3 "is_row" ["p", "n", "thing"] (sp_is_row K) := by
  have O_is_rest := ok_is_rest (P := P) (w := w) (base := base) T
  refine T.d_is_row.ok sc_is_row (fun vs H Q E h => ?_) (fun f cdv A outer s H vs Q E hr h => ?_)
  · obtain ⟨p, n, v, e, rfl, _⟩ := h
    rfl
  · obtain ⟨p, n, v, e, rfl, hv, hl, q⟩ := h
    refine ⟨_, ((pss_one (ps_ret (pe_and (pe_callB call_isi (by rfl) T.b_isinstance (by decide +kernel) (pa_cons (pv 2) (pa_cons (pe_bltn (v := .ty "tuple") (u := .type "tuple") (by rfl) T.b_tuple (by decide +kernel) rfl) pa_nil))) (pe_and (pe_cmpR op_eq (pe_callB call_len_seq (by rfl) T.b_len (by decide +kernel) (pa_cons (pv 2) pa_nil)) (pv 1) (nomark _)) (pe_one (pe_callB (cr_all (by rfl)) (by rfl) T.b_all (by decide +kernel) (pa_cons (pe_lc (own := [("part", 3)]) (g := gName 3) (by rfl) sc_is_row.nd (pi_tup (pv 2)) (blkOk_by (own := [("part", 3)]) (N := N_is_row) (sc := defScope s_is_row) (by decide +kernel)) (fun _ _ _ _ _ => (pg_name (i := 3) sc_is_row.nd rfl (.inl rfl))) (fun _ _ _ _ _ => pts_nil) (fun _ _ _ _ _ => (pe_callO O_is_rest (hr.mono (by omega)) (by rfl) (pa_cons (pv 0) (pa_cons (pv 3) pa_nil))))) pa_nil)))))))), ?_⟩
    refine ⟨v, rfl, v, .ty "tuple", _, _, _, rfl, .ty "tuple", hv.kd, kit_tuple _, _, rfl, ?_⟩
    cases hv with
    | @tup a xs ds hA hx =>
      have lx := repAll_len hx
      have hl : ds.length ≤ 1000 := hl
      refine iteT ⟨.ref a, rfl, a, xs, rfl, .inr hA, .int n, rfl, rfl, _, rfl, ?_⟩
      by_cases hn : (ds.length : Int) = n
      · rw [decide_eq_true (show V.int ((xs.length : Nat) : Int) = V.int n by rw [lx, hn])]
        refine iteT ⟨.ref a, rfl, a, rfl, ⟨_, hA⟩, fun D nD => ?_⟩
        refine lc_it (walk_tup (K := K) (a := a) (xs := xs)) (fun k H' => Same H H' ∧ H' D = some (.lst (((ds.map (restD p)).take k).map V.bl))) ⟨same_mut (Same.refl H) nD, upd_same⟩ (fun k H' _ hP => Same.tup hP.1 hA) (fun k x H1 H2 hk hP hY => ?_) (fun H' hP => ?_)
        · obtain ⟨rfl, e1⟩ := hY
          obtain ⟨sm, eD⟩ := hP
          obtain ⟨e, g, _, rx⟩ := repAll_get hx e1
          refine ⟨rfl, .int p, rfl, x, rfl, p, x, e, rfl, rep_stays (Stays.of sm) _ _ rx, _, eD, ?_, same_mut sm nD, ?_⟩
          · rw [List.length_map, List.length_take, List.length_map]
            exact small1000 (by omega)
          · rw [upd_same, List.take_add_one, List.getElem?_map, g, List.map_append]
            rfl
        · obtain ⟨sm, eD⟩ := hP
          rw [List.take_of_length_le (by rw [List.length_map]; omega)] at eD
          refine ⟨D, ds.map (restD p), rfl, .inl (.inl eD), ?_⟩
          have e : isRowD p n (.tuple ds) = (ds.map (restD p)).all id := by
            show (decide ((ds.length : Int) = n) && ds.all (restD p)) = _
            rw [decide_eq_true hn, Bool.true_and, List.all_map]
            rfl
          have := q H' sm
          rw [e] at this
          exact this
      · rw [decide_eq_false (show ¬ V.int ((xs.length : Nat) : Int) = V.int n from fun z => hn (by rw [← lx]; exact V.int.inj z))]
        refine iteF ?_
        have e : isRowD p n (.tuple ds) = false := by
          show (decide ((ds.length : Int) = n) && ds.all (restD p)) = false
          rw [decide_eq_false hn, Bool.false_and]
        have := q H (Same.refl H)
        rw [e] at this
        exact this
    | _ => exact iteF (q H (Same.refl H))
def sp_noughts (K : PySem.W.Frag) : Sp := fun vs H Q _ => ∃ (a : Addr) (r : List Int), vs = [.ref a] ∧ SqT K H a (r.map V.int) ∧ r.length ≤ 1000 ∧ ∀ H', Same H H' → Q (.bl (r.all fun x => decide (x = 0))) H'
theorem ok_is_noughts (T : Top K mg) : Ok P w K mg base 1 "is_noughts" ["row"] (sp_noughts K) := by
  refine T.d_is_noughts.ok sc_is_noughts (fun vs H Q E h => ?_) (fun f cdv A outer s H vs Q E hr h => ?_)
  · obtain ⟨a, r, rfl, _⟩ := h
    rfl
  · obtain ⟨a, r, rfl, hA, hl, q⟩ := h
    refine ⟨_, ((pss_one (ps_ret (pe_callB (cr_all (by rfl)) (by rfl) T.b_all (by decide +kernel) (pa_cons (pe_lc (own := [("rest", 1)]) (g := gName 1) (by rfl) sc_is_noughts.nd (pi_tup (pv 0)) (blkOk_by (own := [("rest", 1)]) (N := N_is_noughts) (sc := defScope s_is_noughts) (by decide +kernel)) (fun _ _ _ _ _ => (pg_name (i := 1) sc_is_noughts.nd rfl (.inl rfl))) (fun _ _ _ _ _ => pts_nil) (fun _ _ _ _ _ => (pe_cmpR op_eq (pv 1) pe_int (nomark _)))) pa_nil))))), ?_⟩
    refine ⟨.ref a, rfl, a, rfl, ⟨_, hA⟩, fun D nD => ?_⟩
    refine lc_it (walk_tup (K := K) (a := a) (xs := r.map V.int)) (fun k H' => Same H H' ∧ H' D = some (.lst (((r.map fun x => decide (x = 0)).take k).map V.bl))) ⟨same_mut (Same.refl H) nD, upd_same⟩ (fun k H' _ hP => Same.tup hP.1 hA) (fun k x H1 H2 hk hP hY => ?_) (fun H' hP => ?_)
    · obtain ⟨rfl, e1⟩ := hY
      obtain ⟨sm, eD⟩ := hP
      rw [List.getElem?_map] at e1
      cases h1 : r[k]? with
      | none => rw [h1] at e1; cases e1
      | some z =>
        rw [h1] at e1
        have q1 : x = V.int z := (Option.some.inj e1).symm
        subst q1
        refine ⟨rfl, .int z, rfl, rfl, _, eD, ?_, same_mut sm nD, ?_⟩
        · rw [List.length_map, List.length_take, List.length_map]
          exact small1000 (by omega)
        · have ez : decide (V.int z = V.int 0) = decide (z = 0) := decide_eq_decide.mpr ⟨fun e => V.int.inj e, fun e => congrArg V.int e⟩
          rw [upd_same, List.take_add_one, List.getElem?_map, h1, List.map_append, ez]
          rfl
    · obtain ⟨sm, eD⟩ := hP
      rw [List.take_of_length_le (by rw [List.length_map, List.length_map]; exact Nat.le_refl _)] at eD
      refine ⟨D, _, rfl, .inl (.inl eD), ?_⟩
      have := q H' sm
      rw [show (r.all fun x => decide (x = 0)) = (r.map fun x => decide (x = 0)).all id by rw [List.all_map]; rfl] at this
      exact this
def sp_first (K : PySem.W.Frag) : Sp := fun vs H Q _ => ∃ (a : Addr) (r : List Int), vs = [.ref a] ∧ SqT K H a (r.map V.int) ∧ r.length ≤ 1000 ∧ (fpR r < r.length → ∀ H', Same H H' → Q (.int (fpR r : Int)) H') ∧ (fpR r = r.length → ∀ H', Same H H' → Q .non H')
theorem ok_first_place (T : Top K mg) : Ok P w K mg base 1 "first_place" ["row"] (sp_first K) := by
  refine T.d_first_place.ok sc_first_place (fun vs H Q E h => ?_) (fun f cdv A outer s H vs Q E hr h => ?_)
  · obtain ⟨a, r, rfl, _⟩ := h
    rfl
  · obtain ⟨a, r, rfl, hA, hl, q1, q2⟩ := h
    refine ⟨_, ((pss_cons (ps_for PassesOwn.never (by rfl) (pi_enumT (by rfl) T.b_enumerate (pa_cons (pv 0) pa_nil)) (pg_tup (by rfl) (pgs_cons (pg_name (i := 1) sc_first_place.nd rfl (.inl rfl)) (pgs_cons (pg_name (i := 2) sc_first_place.nd rfl (.inl rfl)) pgs_nil)))
        (pss_one (ps_if (pt_cmpR op_ne (pv 2) pe_int (nomark _))
          (pss_one (ps_ret (pv 1)))
          pss_nil)))
      (pss_one (ps_ret pe_non)))), ?_⟩
    refine ⟨.ref a, rfl, a, _, rfl, hA, for_it (walk_enumT (K := K) (a := a) (xs := r.map V.int)) (fun i σ H' => Same H H' ∧ (∀ j, j < i → r.getD j 0 = 0) ∧ ∃ y1 y2, σ = [some (.ref a), y1, y2]) ⟨Same.refl H, fun j hj => absurd hj (Nat.not_lt_zero _), none, none, rfl⟩ (fun i σ H' _ hW => Same.tup hW.1 hA) (fun i v σ H1 H2 hi hW hY => ?_) (fun σ H' hW => ?_)⟩
    · obtain ⟨sm, lo, y1, y2, rfl⟩ := hW
      obtain ⟨Ta, x, y, rfl, nT, rfl, g1, g2⟩ := hY
      rw [List.length_map] at hi
      have g1 : x = V.int (i : Nat) := (Option.some.inj g1).symm
      have g2 : (r.map V.int)[i]? = some y := g2
      rw [List.getElem?_map, List.getElem?_eq_getElem hi] at g2
      have g2 : y = V.int r[i] := (Option.some.inj g2).symm
      subst g1 g2
      have sT : Same H1 (upd H1 Ta (.tup [.int (i : Nat), .int r[i]])) := same_upd nT
      refine ⟨Ta, [.int (i : Nat), .int r[i]], rfl, .inl (.inl upd_same), rfl, .int (i : Nat), [.int r[i]], rfl, .int r[i], [], rfl, rfl, ?_⟩
      refine ⟨.int r[i], rfl, rfl, _, rfl, ite2 (fun e => ?_) (fun e => ?_)⟩
      · have nz : r.getD i 0 ≠ 0 := fun z => by
          rw [gd_lt hi] at z
          rw [z] at e
          cases e
        have ef := fpR_of nz lo
        refine ⟨.int (i : Nat), rfl, ?_⟩
        have := q1 (by omega) _ (sm.trans sT)
        rw [ef] at this
        exact this
      · refine ⟨sm.trans sT, fun j hj => ?_, _, _, rfl⟩
        by_cases ej : j = i
        · subst ej
          rw [gd_lt hi]
          apply Classical.byContradiction
          intro hn
          apply e
          rw [decide_eq_false (fun z => hn (V.int.inj z))]
          rfl
        · exact lo j (by omega)
    · obtain ⟨sm, lo, y1, y2, rfl⟩ := hW
      refine q2 ?_ _ sm
      rw [List.length_map] at lo
      rcases Nat.lt_or_ge (fpR r) r.length with h | h
      · exact absurd (lo _ h) (fpR_at h)
      · have := fpR_le r
        omega
def sp_cleared (K : PySem.W.Frag) : Sp := fun vs H Q _ => ∃ (a b : Addr) (r c : List Int) (p : Int) (n : Nat), vs = [.int p, .ref b, .ref a] ∧ SqT K H a (r.map V.int) ∧ SqT K H b (c.map V.int) ∧ RowsOk p n [r] ∧ c.length = n ∧ fpR c < n ∧ n ≤ 1000 ∧ 0 < p ∧ p ≤ 100000 ∧
  ∀ H' l, Same H H' → SqT K H' l ((lessR p r c (fpR c)).map V.int) → Q (.ref l) H'
theorem ok_cleared (T : Top K mg) : Ok P w K mg base 2 "cleared" ["p", "plain", "row"] (sp_cleared K) := by
  have O_first_place := ok_first_place (P := P) (w := w) (base := base) T
  have O_added := ok_added (P := P) (w := w) (base := base) T
  have O_times := ok_times (P := P) (w := w) (base := base) T
  refine T.d_cleared.ok sc_cleared (fun vs H Q E h => ?_) (fun f cdv A outer s H vs Q E hr h => ?_)
  · obtain ⟨a, b, r, c, p, n, rfl, _⟩ := h
    rfl
  · obtain ⟨a, b, r, c, p, n, rfl, hA, hB, okr, lc, hfp, hn, hp, hp2, q⟩ := h
    refine ⟨_, ((pss_cons (ps_set (i := 3) sc_cleared.nd rfl (.inl rfl) (pe_ix ix_tup (pv 2) (pe_callO O_first_place (hr.mono (by omega)) (by rfl) (pa_cons (pv 1) pa_nil)) (fun _ _ => rfl)))
      (pss_cons (ps_if (pt_cmpR op_eq (pv 3) pe_int (nomark _))
        (pss_one (ps_ret (pv 2)))
        pss_nil)
      (pss_one (ps_ret (pe_callO O_added (hr.mono (by omega)) (by rfl) (pa_cons (pv 0) (pa_cons (pv 2) (pa_cons (pe_callO O_times (hr.mono (by omega)) (by rfl) (pa_cons (pv 0) (pa_cons (pe_op op_sub (pv 0) (pv 3)) (pa_cons (pv 1) pa_nil)))) pa_nil))))))))), ?_⟩
    have okr := okr r List.mem_cons_self
    have bj := rowOk_getD okr hfp
    refine ⟨.ref a, rfl, .ref b, rfl, b, c, rfl, hB, by omega, fun hlt H1 s1 => ?_, fun e => by omega⟩
    refine ⟨a, _, _, _, rfl, rfl, Same.tup s1 hA, at_row (by rw [okr.1]; exact hfp), ?_⟩
    refine ⟨.int (r.getD (fpR c) 0), rfl, rfl, _, rfl, ite2 (fun e => ?_) (fun e => ?_)⟩
    · have z : r.getD (fpR c) 0 = 0 := V.int.inj (of_decide_eq_true e)
      refine ⟨.ref a, rfl, q H1 a s1 ?_⟩
      unfold lessR
      rw [z, less_zero r c (by rw [okr.1, lc]) okr.2]
      exact Same.tup s1 hA
    · refine ⟨.int p, rfl, .ref a, rfl, .int p, rfl, .int p, rfl, .int (r.getD (fpR c) 0), rfl, _, _, rfl, rfl, .ref b, rfl, b, c, p, _, rfl, Same.tup s1 hB, by omega, hp, by omega, by omega, fun H2 l2 s2 n2 e2 => ?_⟩
      refine ⟨a, l2, r, _, p, rfl, Same.tup (s1.trans s2) hA, .inl (.inl e2), by omega, hp, fun H3 l3 s3 n3 e3 => ?_⟩
      refine q H3 l3 ((s1.trans s2).trans s3) (.inl (.inl ?_))
      rw [less_eq] at e3
      exact e3
def sp_left (K : PySem.W.Frag) : Sp := fun vs H Q _ => ∃ (a b : Addr) (room : List (List Int)) (r : List Int) (p : Int) (n : Nat), vs = [.int p, .ref b, .ref a] ∧ RowsAt K H b room ∧ SqT K H a (r.map V.int) ∧ RowsOk p n room ∧ (∀ c ∈ room, fpR c < n) ∧ RowsOk p n [r] ∧ n ≤ 1000 ∧ 0 < p ∧ p ≤ 100000 ∧
  ∀ H' l, Same H H' → SqT K H' l ((leftR p room r).map V.int) → Q (.ref l) H'
theorem ok_left_of (T : Top K mg) : Ok P w K mg base 3 "left_of" ["p", "room", "row"] (sp_left K) := by
  have O_cleared := ok_cleared (P := P) (w := w) (base := base) T
  refine T.d_left_of.ok sc_left_of (fun vs H Q E h => ?_) (fun f cdv A outer s H vs Q E hr h => ?_)
  · obtain ⟨a, b, room, r, p, n, rfl, _⟩ := h
    rfl
  · obtain ⟨a, b, room, r, p, n, rfl, ⟨ws, hB, hR⟩, hA, ok, hfp, okr, hn, hp, hp2, q⟩ := h
    refine ⟨_, ((pss_cons (ps_for PassesOwn.never (by rfl) (pi_tup (pv 1)) (pg_name (i := 3) sc_left_of.nd rfl (.inl rfl))
        (pss_one (ps_set (i := 2) sc_left_of.nd rfl (.inl rfl) (pe_callO O_cleared (hr.mono (by omega)) (by rfl) (pa_cons (pv 0) (pa_cons (pv 3) (pa_cons (pv 2) pa_nil)))))))
      (pss_one (ps_ret (pv 2))))), ?_⟩
    have lw := rows_len hR
    refine ⟨.ref b, rfl, b, rfl, ⟨_, hB⟩, for_it (walk_tup (K := K) (a := b) (xs := ws)) (fun i σ H' => Same H H' ∧ ∃ (l : Addr) (y3 : Option V), SqT K H' l ((leftR p (room.take i) r).map V.int) ∧ σ = [some (.int p), some (.ref b), some (.ref l), y3]) ⟨Same.refl H, a, none, hA, rfl⟩ (fun i σ H' _ hW => Same.tup hW.1 hB) (fun i x σ H1 H2 hi hW hY => ?_) (fun σ H' hW => ?_)⟩
    · obtain ⟨sm, l, y3, hl, rfl⟩ := hW
      obtain ⟨rfl, e1⟩ := hY
      obtain ⟨c, rc, rfl, gr, mr, hc⟩ := dpAll_row (dpAll_same sm _ _ hR) e1
      have okc := ok rc mr
      refine ⟨.int p, rfl, .ref c, rfl, .ref l, rfl, l, c, leftR p (room.take i) r, rc, p, n, rfl, hl, hc, leftR_ok hp _ _ (fun x hx => ok x (List.mem_of_mem_take hx)) okr, okc.1, hfp rc mr, hn, hp, hp2, fun H3 l3 s3 h3 => ?_⟩
      refine ⟨sm.trans s3, l3, _, ?_, rfl⟩
      rw [leftR_take gr]
      exact h3
    · obtain ⟨sm, l, y3, hl, rfl⟩ := hW
      rw [List.take_of_length_le (by omega)] at hl
      exact ⟨.ref l, rfl, q H' l sm hl⟩
def sp_within (K : PySem.W.Frag) : Sp := fun vs H Q _ => ∃ (a b : Addr) (room : List (List Int)) (r : List Int) (p : Int) (n : Nat), vs = [.int p, .ref b, .ref a] ∧ RowsAt K H b room ∧ SqT K H a (r.map V.int) ∧ PFR p n room ∧ RowsOk p n [r] ∧ Fld p ∧ n ≤ 100 ∧ p ≤ 1000 ∧
  ∀ H', Same H H' → Q (.bl (hasR p n room r)) H'
theorem ok_within (T : Top K mg) : Ok P w K mg base 4 "within" ["p", "room", "row"] (sp_within K) := by
  have O_left_of := ok_left_of (P := P) (w := w) (base := base) T
  have O_is_noughts := ok_is_noughts (P := P) (w := w) (base := base) T
  refine T.d_within.ok sc_within (fun vs H Q E h => ?_) (fun f cdv A outer s H vs Q E hr h => ?_)
  · obtain ⟨a, b, room, r, p, n, rfl, _⟩ := h
    rfl
  · obtain ⟨a, b, room, r, p, n, rfl, hB, hA, pf, okr, hF, hn, hp, q⟩ := h
    have h2 := hF.1
    refine ⟨_, ((pss_one (ps_ret (pe_callO O_is_noughts (hr.mono (by omega)) (by rfl) (pa_cons (pe_callO O_left_of (hr.mono (by omega)) (by rfl) (pa_cons (pv 0) (pa_cons (pv 1) (pa_cons (pv 2) pa_nil)))) pa_nil))))), ?_⟩
    refine ⟨.int p, rfl, .ref b, rfl, .ref a, rfl, a, b, room, r, p, n, rfl, hB, hA, pf.1, pf.fp_lt hF, okr, by omega, by omega, by omega, fun H1 l s1 h1 => ?_⟩
    have okl := pf.left_ok hF okr _ List.mem_cons_self
    refine ⟨l, _, rfl, h1, by omega, fun H' s' => ?_⟩
    rw [hasR_iff hF pf okr]
    exact q H' (s1.trans s')
def sp_widened (K : PySem.W.Frag) : Sp := fun vs H Q _ => ∃ (a b : Addr) (room : List (List Int)) (r : List Int) (p : Int) (n : Nat), vs = [.int p, .ref b, .ref a] ∧ RowsAt K H b room ∧ SqT K H a (r.map V.int) ∧ PFR p n room ∧ RowsOk p n [r] ∧ Fld p ∧ 1 ≤ n ∧ n ≤ 100 ∧ p ≤ 1000 ∧
  ∀ H' l, Same H H' → RowsAt K H' l (plainR p n (room ++ [r])) → Q (.ref l) H'
theorem ok_widened (T : Top K mg) : Ok P w K mg base 4 "widened" ["p", "room", "row"] (sp_widened K) := by
  have O_left_of := ok_left_of (P := P) (w := w) (base := base) T
  have O_first_place := ok_first_place (P := P) (w := w) (base := base) T
  have O_times := ok_times (P := P) (w := w) (base := base) T
  have O_contrary := ok_contrary (P := P) (w := w) (base := base) T
  have O_cleared := ok_cleared (P := P) (w := w) (base := base) T
  refine T.d_widened.ok sc_widened (fun vs H Q E h => ?_) (fun f cdv A outer s H vs Q E hr h => ?_)
  · obtain ⟨a, b, room, r, p, n, rfl, _⟩ := h
    rfl
  · obtain ⟨a, b, room, r, p, n, rfl, hB, hA, pf, okr, hF, n1, hn, hp, q⟩ := h
    have h2 := hF.1
    have lroom : room.length ≤ n := by
      have := plainR_lenle hF pf.1
      rwa [pf.2] at this
    refine ⟨_, ((pss_cons (ps_set (i := 3) sc_widened.nd rfl (.inl rfl) (pe_callO O_left_of (hr.mono (by omega)) (by rfl) (pa_cons (pv 0) (pa_cons (pv 1) (pa_cons (pv 2) pa_nil)))))
      (pss_cons (ps_set (i := 4) sc_widened.nd rfl (.inl rfl) (pe_callO O_first_place (hr.mono (by omega)) (by rfl) (pa_cons (pv 3) pa_nil)))
      (pss_cons (ps_if (pt_cmpR op_isN (pv 4) pe_non (nomark _))
        (pss_one (ps_ret (pv 1)))
        pss_nil)
      (pss_cons (ps_set (i := 5) sc_widened.nd rfl (.inr rfl) (pe_callO O_times (hr.mono (by omega)) (by rfl) (pa_cons (pv 0) (pa_cons (pe_callO O_contrary (hr.mono (by omega)) (by rfl) (pa_cons (pv 0) (pa_cons (pe_ix ix_tup (pv 3) (pv 4) (fun _ _ => rfl)) pa_nil))) (pa_cons (pv 3) pa_nil)))))
      (pss_one (ps_ret (pe_callTy call_tuple_of (by rfl) T.b_tuple (by decide +kernel) (pa_cons (pe_callBK cr_sortTR (by rfl) T.b_sorted (by decide +kernel) (pa_cons (pe_op op_cat (pe_lst (pa_cons (pv 5) pa_nil)) (pe_lc (own := [("plain", 6)]) (g := gName 6) (by rfl) sc_widened.nd (pi_tup (pv 1)) (blkOk_by (own := [("plain", 6)]) (N := N_widened) (sc := defScope s_widened) (by decide +kernel)) (fun _ _ _ _ _ => (pg_name (i := 6) sc_widened.nd rfl (.inl rfl))) (fun _ _ _ _ _ => pts_nil) (fun _ _ _ _ _ => (pe_callO O_cleared (hr.mono (by omega)) (by rfl) (pa_cons (pv 0) (pa_cons (pv 5) (pa_cons (pv 6) pa_nil))))))) pa_nil) (pk_cons pe_bl pk_nil)) pa_nil))))))))), ?_⟩
    refine ⟨.int p, rfl, .ref b, rfl, .ref a, rfl, a, b, room, r, p, n, rfl, hB, hA, pf.1, pf.fp_lt hF, okr, by omega, by omega, by omega, fun H1 l s1 h1 => ?_⟩
    have okl := pf.left_ok hF okr _ List.mem_cons_self
    have wid := fun rs => pf.widen (rs := rs) hF okr
    have wid0 := pf.widen0 hF okr
    generalize hy : leftR p room r = y at h1 okl wid wid0
    refine ⟨.ref l, rfl, l, y, rfl, h1, by omega, fun hlt H2 s2 => ?_, fun e H2 s2 => ?_⟩
    · -- a fresh row
      refine ⟨.int (fpR y : Int), rfl, rfl, _, rfl, ?_⟩
      rw [decide_eq_false (fun z => by cases z)]
      refine iteF ?_
      rw [okl.1] at hlt
      have bj := rowOk_getD okl hlt
      have nz : y.getD (fpR y) 0 ≠ 0 := fpR_at (by rw [okl.1]; exact hlt)
      have hl2 := Same.tup s2 h1
      refine ⟨.int p, rfl, .int p, rfl, .ref l, rfl, .int (fpR y : Int), rfl, l, _, _, _, rfl, rfl, hl2, at_row (by rw [okl.1]; exact hlt), p, _, rfl, hF, hp, by omega, bj.2, .ref l, rfl, l, y, p, ctr p (y.getD (fpR y) 0), rfl, hl2, by omega, by omega, ?_, ?_, fun H3 l3 s3 n3 e3 => ?_⟩
      · have := (ctr_ok hF (show 1 ≤ y.getD (fpR y) 0 by omega) bj.2).1
        omega
      · have := (ctr_ok hF (show 1 ≤ y.getD (fpR y) 0 by omega) bj.2).2.1
        omega
      have e3 : H3 l3 = some (.tup ((ownR p y (fpR y)).map V.int)) := e3
      have okf := own_row (p := p) (by omega) okl.1 (fpR y)
      have wid := fun rs => wid rs hlt
      -- its first place
      have ff : fpR (ownR p y (fpR y)) = fpR y := by
        have hc := ctr_ok hF (show 1 ≤ y.getD (fpR y) 0 by omega) bj.2
        have gd : ∀ i, i < n → (ownR p y (fpR y)).getD i 0 = ctr p (y.getD (fpR y) 0) * y.getD i 0 % p := fun i hi => by
          unfold ownR
          rw [gd_lt (by rw [List.length_map, okl.1]; exact hi), List.getElem_map, gd_lt (r := y) (i := i) (by rw [okl.1]; exact hi)]
        refine fpR_of ?_ fun i hi => ?_
        · rw [gd _ hlt, Int.mul_comm, hc.2.2]
          decide
        · rw [gd _ (by omega), fpR_low hi, Int.mul_zero, Int.zero_emod]
      generalize ownR p y (fpR y) = fr at e3 okf wid ff
      refine ⟨.ref l3, rfl, sz1000 (by decide : (1 : Nat) ≤ 1000), fun L nL => ?_⟩
      generalize h4 : upd H3 L _ = H4
      obtain ⟨s4, e4⟩ := new_of h4 nL
      have t14 : Same H H4 := ((s1.trans s2).trans s3).trans s4
      obtain ⟨ws, hB4, hR4⟩ := RowsAt.same t14 hB
      have lw := rows_len hR4
      have hf4 : SqT K H4 l3 (fr.map V.int) := .inl (.inl (s4 _ _ e3))
      refine ⟨.ref b, rfl, b, rfl, ⟨_, hB4⟩, lc_mapR (fun d => rowD (lessR p (intsOf d) fr (fpR fr))) (walk_tup (K := K) (a := b) (xs := ws)) (fun H' s => Same.tup s hB4) (rep_rows hR4) (by omega) (fun _ => rfl) (fun v d H' Q' md rv sm hQ => ?_) (fun D H5 vs5 s5 n5 e5 r5 => ?_)⟩
      · obtain ⟨x, mx, rfl⟩ := List.mem_map.mp md
        obtain ⟨c, rfl, hc⟩ := rep_row rv
        rw [ints_row] at hQ
        refine ⟨.int p, rfl, .ref l3, rfl, .ref c, rfl, c, l3, x, fr, p, n, rfl, hc, Same.tup sm hf4, rowsOk_one (pf.1 x mx), okf.1, by omega, by omega, by omega, by omega, fun H'' l'' s'' h'' => hQ (.ref l'') H'' s'' (row_rep h'')⟩
      have em : (room.map rowD).map (fun d => rowD (lessR p (intsOf d) fr (fpR fr))) = (room.map fun x => lessR p x fr (fpR y)).map rowD := by
        rw [List.map_map, List.map_map]
        apply List.map_congr_left
        intro x _
        show rowD (lessR p (intsOf (rowD x)) fr (fpR fr)) = rowD (lessR p x fr (fpR y))
        rw [ints_row, ff]
      rw [em] at r5
      have d5 := rows_rep r5
      have lv5 : vs5.length = room.length := by
        have := rows_len d5
        rwa [List.length_map] at this
      have e45 := s5 _ _ e4
      refine ⟨L, D, _, _, rfl, rfl, e45, e5, sz1000 (by simp; omega), fun C nC => ?_⟩
      generalize h6 : upd H5 C _ = H6
      obtain ⟨s6, e6⟩ := new_of h6 nC
      have t46 : Same H4 H6 := s5.trans s6
      have hf6 := Same.tup t46 hf4
      have d6 : DpAll K H6 ([V.ref l3] ++ vs5) ((fr :: room.map fun x => lessR p x fr (fpR y)).map rowD) := .cons (row_dp hf6) (dpAll_same s6 _ _ d5)
      have okL : RowsOk p n (fr :: room.map fun x => lessR p x fr (fpR y)) := fun x hx => by
        rcases List.mem_cons.mp hx with rfl | hx
        · exact okf
        · obtain ⟨z, hz, rfl⟩ := List.mem_map.mp hx
          exact less_row (by omega) (pf.1 z hz).1 okf.1 _
      refine ⟨C, _, n, p, rfl, rfl, n1, .inl (.inl e6), fun x hx => ?_, fun ys S pm pw nS => ?_⟩
      · obtain ⟨i, hi, rfl⟩ := List.getElem_of_mem hx
        obtain ⟨c, rc, ec, gr, mr, hc⟩ := dpAll_row d6 (List.getElem?_eq_getElem hi)
        exact ⟨rc, ⟨c, ec, hc⟩, (okL rc mr).1, (okL rc mr).2⟩
      generalize h7 : upd H6 S _ = H7
      obtain ⟨s7, e7⟩ := new_of h7 nS
      obtain ⟨rs', pm', d'⟩ := dpAll_perm pm d6
      have pw' := dpAll_pw d' pw
      have er := wid rs' pm' pw'
      refine ⟨S, ys, rfl, .inl ⟨.inl (.inl e7), fun R nR => ?_⟩⟩
      generalize h8 : upd H7 R _ = H8
      obtain ⟨s8, e8⟩ := new_of h8 nR
      refine q H8 R (((t14.trans t46).trans s7).trans s8) ⟨ys, .inl (.inl e8), ?_⟩
      rw [← er]
      exact dpAll_same (s7.trans s8) _ _ d'
    · -- nothing new
      refine ⟨.non, rfl, rfl, _, rfl, ?_⟩
      rw [decide_eq_true rfl]
      refine iteT ⟨.ref b, rfl, q H2 b (s1.trans s2) ?_⟩
      rw [← wid0 (fpR_all e)]
      exact RowsAt.same (s1.trans s2) hB
def sp_room_of (K : PySem.W.Frag) : Sp := fun vs H Q _ => ∃ (a : Addr) (rs : List (List Int)) (p : Int) (n : Nat), vs = [.int p, .int (n : Int), .ref a] ∧ RowsAt K H a rs ∧ RowsOk p n rs ∧ Fld p ∧ 1 ≤ n ∧ n ≤ 100 ∧ p ≤ 1000 ∧
  ∀ H' l, Same H H' → RowsAt K H' l (plainR p n rs) → Q (.ref l) H'
theorem ok_room_of (T : Top K mg) : Ok P w K mg base 5 "room_of" ["p", "n", "rows"] (sp_room_of K) := by
  have O_widened := ok_widened (P := P) (w := w) (base := base) T
  refine T.d_room_of.ok sc_room_of (fun vs H Q E h => ?_) (fun f cdv A outer s H vs Q E hr h => ?_)
  · obtain ⟨a, rs, p, n, rfl, _⟩ := h
    rfl
  · obtain ⟨a, rs, p, n, rfl, ⟨ws, hA, hR⟩, ok, hF, n1, hn, hp, q⟩ := h
    refine ⟨_, ((pss_cons (ps_set (i := 3) sc_room_of.nd rfl (.inl rfl) (pe_tup pa_nil))
      (pss_cons (ps_for PassesOwn.never (by rfl) (pi_tup (pv 2)) (pg_name (i := 4) sc_room_of.nd rfl (.inl rfl))
        (pss_cons (ps_if (pt_cmpR op_eq (pe_callB call_len_seq (by rfl) T.b_len (by decide +kernel) (pa_cons (pv 3) pa_nil)) (pv 1) (nomark _))
          (pss_one (ps_ret (pv 3)))
          pss_nil)
        (pss_one (ps_set (i := 3) sc_room_of.nd rfl (.inl rfl) (pe_callO O_widened (hr.mono (by omega)) (by rfl) (pa_cons (pv 0) (pa_cons (pv 3) (pa_cons (pv 4) pa_nil))))))))
      (pss_one (ps_ret (pv 3)))))), ?_⟩
    have lw := rows_len hR
    refine ⟨Nat.zero_le _, fun z nz => ?_⟩
    generalize h1 : upd H z _ = H1
    obtain ⟨s1, e1⟩ := new_of h1 nz
    have hA1 := Same.tup s1 hA
    refine ⟨.ref a, rfl, a, rfl, ⟨_, hA1⟩, for_it (walk_tup (K := K) (a := a) (xs := ws)) (fun i σ H' => Same H H' ∧ ∃ (b : Addr) (y4 : Option V), RowsAt K H' b (plainR p n (rs.take i)) ∧ σ = [some (.int p), some (.int (n : Int)), some (.ref a), some (.ref b), y4]) ⟨s1, z, none, ⟨[], .inl (.inl e1), ?_⟩, rfl⟩ (fun i σ H' _ hW => Same.tup hW.1 hA) (fun i x σ H2 H3 hi hW hY => ?_) (fun σ H' hW => ?_)⟩
    · rw [List.take_zero, plainR_nil]
      exact .nil
    · obtain ⟨sm, b, y4, hb, rfl⟩ := hW
      obtain ⟨rfl, e1⟩ := hY
      obtain ⟨c, r, rfl, gr, mr, hc⟩ := dpAll_row (dpAll_same sm _ _ hR) e1
      have okt : RowsOk p n (rs.take i) := fun x hx => ok x (List.mem_of_mem_take hx)
      have okr : RowsOk p n [r] := rowsOk_one (ok r mr)
      have pf := PFR.of_plain hF okt
      have eapp : rs.take (i + 1) = rs.take i ++ [r] := by
        rw [List.take_add_one, gr]
        rfl
      obtain ⟨wb, hb1, hb2⟩ := id hb
      have lb := rows_len hb2
      refine ⟨.ref b, rfl, b, wb, rfl, .inr hb1, .int n, rfl, rfl, _, rfl, ite2 (fun e => ?_) (fun e => ?_)⟩
      · have e : wb.length = n := by
          have := V.int.inj (of_decide_eq_true e)
          omega
        refine ⟨.ref b, rfl, q _ b sm ?_⟩
        have ef : plainR p n rs = plainR p n (rs.take i) := by
          have := plain_full hF okt (show RowsOk p n (rs.drop i) from fun x hx => ok x (List.mem_of_mem_drop hx)) (by omega)
          rwa [List.take_append_drop] at this
        rw [ef]
        exact hb
      · refine ⟨.int p, rfl, .ref b, rfl, .ref c, rfl, c, b, plainR p n (rs.take i), r, p, n, rfl, hb, hc, pf, okr, hF, n1, hn, hp, fun H4 l s4 h4 => ?_⟩
        refine ⟨sm.trans s4, l, _, ?_, rfl⟩
        rw [eapp, ← plainR_app hF okt okr]
        exact h4
    · obtain ⟨sm, b, y4, hb, rfl⟩ := hW
      rw [List.take_of_length_le (by omega)] at hb
      exact ⟨.ref b, rfl, q H' b sm hb⟩
theorem rep_flat (n : Nat) (z : Int) : (List.replicate n [V.int z]).flatten = (List.replicate n z).map V.int := by
  induction n with
  | zero => rfl
  | succ n ih =>
    rw [List.replicate_succ, List.flatten_cons, ih]
    rfl
def sp_across_at (K : PySem.W.Frag) : Sp := fun vs H Q _ => ∃ (a : Addr) (room : List (List Int)) (p : Int) (n j : Nat), vs = [.int p, .int (n : Int), .ref a, .int (j : Int)] ∧ RowsAt K H a room ∧ RowsOk p n room ∧ (∀ c ∈ room, fpR c < n) ∧ j < n ∧ n ≤ 1000 ∧ 2 ≤ p ∧
  ∀ H' l, Same H H' → H' l = some (.tup ((crossR p n room j).map V.int)) → Q (.ref l) H'
theorem ok_across_at (T : Top K mg) : Ok P w K mg base 2 "across_at" ["p", "n", "room", "at"] (sp_across_at K) := by
  have O_first_place := ok_first_place (P := P) (w := w) (base := base) T
  refine T.d_across_at.ok sc_across_at (fun vs H Q E h => ?_) (fun f cdv A outer s H vs Q E hr h => ?_)
  · obtain ⟨a, room, p, n, j, rfl, _⟩ := h
    rfl
  · obtain ⟨a, room, p, n, j, rfl, ⟨ws, hA, hR⟩, ok, hfp, hj, hn, hp, q⟩ := h
    refine ⟨_, ((pss_cons (ps_set (i := 4) sc_across_at.nd rfl (.inl rfl) (pe_op op_rep (pe_lst (pa_cons pe_int pa_nil)) (pv 1)))
      (pss_cons (ps_asg pe_int (pg_sub (pv 4) (pv 3) set_list))
      (pss_cons (ps_for PassesOwn.never (by rfl) (pi_tup (pv 2)) (pg_name (i := 5) sc_across_at.nd rfl (.inl rfl))
        (pss_one (ps_asg (pe_op op_mod (pe_un un_neg (pe_ix ix_tup (pv 5) (pv 3) (fun _ _ => rfl))) (pv 0)) (pg_sub (pv 4) (pe_callO O_first_place (hr.mono (by omega)) (by rfl) (pa_cons (pv 5) pa_nil)) set_list))))
      (pss_one (ps_ret (pe_callTy call_tuple_of (by rfl) T.b_tuple (by decide +kernel) (pa_cons (pv 4) pa_nil)))))))), ?_⟩
    have lw := rows_len hR
    refine ⟨sz1000 (by decide : (1 : Nat) ≤ 1000), fun z nz => ?_⟩
    generalize h1 : upd H z _ = H1
    obtain ⟨s1, e1⟩ := new_of h1 nz
    refine ⟨.int n, rfl, z, n, _, rfl, rfl, e1, by omega, by omega, sz1000 (by show 1 * ((n : Int)).toNat ≤ 1000; omega), fun o no => ?_⟩
    rw [show ((n : Int)).toNat = n from rfl, rep_flat]
    generalize h2 : upd H1 o _ = H2
    obtain ⟨s2, e2⟩ := new_of h2 no
    have noH : H o = none := s1.free no
    have s12 := s1.trans s2
    refine ⟨.ref o, rfl, .int j, rfl, o, _, j, j, rfl, rfl, e2, ?_, ?_⟩
    · rw [List.length_map, List.length_replicate]
      exact ix_nat (by omega) (by omega)
    rw [show (V.int 1) = V.int (1 : Int) from rfl, ← List.map_set]
    have s3 : Same H (upd H2 o (.lst (((List.replicate n (0 : Int)).set j 1).map V.int))) := same_mut s12 noH
    generalize h3 : upd H2 o (.lst (((List.replicate n (0 : Int)).set j 1).map V.int)) = H3 at s3
    have e3 : H3 o = some (.lst (((List.replicate n (0 : Int)).set j 1).map V.int)) := by rw [← h3]; exact upd_same
    refine ⟨.ref a, rfl, a, rfl, ⟨_, Same.tup s3 hA⟩, for_it (walk_tup (K := K) (a := a) (xs := ws)) (fun i σ H' => Same H H' ∧ H' o = some (.lst ((crossF p (room.take i) j ((List.replicate n 0).set j 1)).map V.int)) ∧ ∃ y5 : Option V, σ = [some (.int p), some (.int (n : Int)), some (.ref a), some (.int (j : Int)), some (.ref o), y5]) ⟨s3, e3, none, rfl⟩ (fun i σ H' _ hW => Same.tup hW.1 hA) (fun i x σ H4 H5 hi hW hY => ?_) (fun σ H' hW => ?_)⟩
    · obtain ⟨sm, eo, y5, rfl⟩ := hW
      obtain ⟨rfl, e1⟩ := hY
      obtain ⟨c, r, rfl, gr, mr, hc⟩ := dpAll_row (dpAll_same sm _ _ hR) e1
      have okr := ok r mr
      have hf := hfp r mr
      refine ⟨.ref c, rfl, .int j, rfl, c, _, _, _, rfl, rfl, hc, at_row (by rw [okr.1]; exact hj), r.getD j 0, rfl, .int p, rfl, _, p, rfl, rfl, by omega, ?_⟩
      refine ⟨.ref o, rfl, .ref c, rfl, c, r, rfl, hc, by omega, fun hlt H6 s6 => ?_, fun e => by omega⟩
      refine ⟨o, _, fpR r, fpR r, rfl, rfl, s6 _ _ eo, ?_, same_mut (sm.trans s6) noH, ?_, _, rfl⟩
      · rw [List.length_map, crossF_len, List.length_set, List.length_replicate]
        exact ix_nat (by omega) (by omega)
      · rw [upd_same, ← List.map_set, crossF_take gr]
    · obtain ⟨sm, eo, y5, rfl⟩ := hW
      rw [List.take_of_length_le (by omega)] at eo
      refine ⟨.ref o, rfl, o, _, rfl, .inl ⟨.inl (.inl eo), fun l nl => ?_⟩⟩
      generalize h5 : upd H' l _ = H5
      obtain ⟨s5, e5⟩ := new_of h5 nl
      exact q H5 l (sm.trans s5) e5
def sp_across (K : PySem.W.Frag) : Sp := fun vs H Q _ => ∃ (a : Addr) (room : List (List Int)) (p : Int) (n : Nat), vs = [.int p, .int (n : Int), .ref a] ∧ RowsAt K H a room ∧ PFR p n room ∧ Fld p ∧ 1 ≤ n ∧ n ≤ 100 ∧ p ≤ 1000 ∧
  ∀ H' l, Same H H' → RowsAt K H' l (acrossR p n room) → Q (.ref l) H'
theorem range_filter_succ (q : Nat → Bool) (k : Nat) : (List.range (k + 1)).filter q = (List.range k).filter q ++ (if q k = true then [k] else []) := by
  rw [List.range_succ, List.filter_append]
  congr 1
  by_cases h : q k = true
  · simp [h]
  · simp [h]
theorem ok_across (T : Top K mg) : Ok P w K mg base 6 "across" ["p", "n", "room"] (sp_across K) := by
  have O_first_place := ok_first_place (P := P) (w := w) (base := base) T
  have O_across_at := ok_across_at (P := P) (w := w) (base := base) T
  have O_room_of := ok_room_of (P := P) (w := w) (base := base) T
  refine T.d_across.ok sc_across (fun vs H Q E h => ?_) (fun f cdv A outer s H vs Q E hr h => ?_)
  · obtain ⟨a, room, p, n, rfl, _⟩ := h
    rfl
  · obtain ⟨a, room, p, n, rfl, ⟨ws, hA, hR⟩, pf, hF, n1, hn, hp, q⟩ := h
    have h2 := hF.1
    refine ⟨_, ((pss_cons (ps_set (i := 4) sc_across.nd rfl (.inr rfl) (pe_lc (own := [("plain", 3)]) (g := gName 3) (by rfl) sc_across.nd (pi_tup (pv 2)) (blkOk_by (own := [("plain", 3)]) (N := N_across) (sc := defScope s_across) (by decide +kernel)) (fun _ _ _ _ _ => (pg_name (i := 3) sc_across.nd rfl (.inl rfl))) (fun _ _ _ _ _ => pts_nil) (fun _ _ _ _ _ => (pe_callO O_first_place (hr.mono (by omega)) (by rfl) (pa_cons (pv 3) pa_nil)))))
      (pss_one (ps_ret (pe_callO O_room_of (hr.mono (by omega)) (by rfl) (pa_cons (pv 0) (pa_cons (pv 1) (pa_cons (pe_callTy call_tuple_of (by rfl) T.b_tuple (by decide +kernel) (pa_cons (pe_lc (own := [("at", 5)]) (g := gName 5) (by rfl) sc_across.nd (pi_range1 (by rfl) T.b_range (pa_cons (pv 1) pa_nil)) (blkOk_by (own := [("at", 5)]) (N := N_across) (sc := defScope s_across) (by decide +kernel)) (fun _ _ _ _ _ => (pg_name (i := 5) sc_across.nd rfl (.inl rfl))) (fun _ _ _ _ _ => (pts_one (pt_cmpR (show OpR _ (compareOp .NotIn) (rIn K true) from op_notIn_seq) (pv 5) (pv 4) (by rfl)))) (fun _ _ _ _ _ => (pe_callO O_across_at (hr.mono (by omega)) (by rfl) (pa_cons (pv 0) (pa_cons (pv 1) (pa_cons (pv 2) (pa_cons (pv 5) pa_nil))))))) pa_nil)) pa_nil)))))))), ?_⟩
    have lw := rows_len hR
    have lrm : room.length ≤ n := by
      have := plainR_lenle hF pf.1
      rwa [pf.2] at this
    have fp := pf.fp_lt hF
    refine ⟨.ref a, rfl, a, rfl, ⟨_, hA⟩, lc_valR (fun d => V.int (fpR (intsOf d) : Int)) (walk_tup (K := K) (a := a) (xs := ws)) (fun H' s => Same.tup s hA) (rep_rows hR) (by omega) (fun _ => rfl) (fun v d H' Q' md rv sm hQ => ?_) (fun F1 H1 s1 nF eF => ?_)⟩
    · obtain ⟨r, mr, rfl⟩ := List.mem_map.mp md
      obtain ⟨c, rfl, hc⟩ := rep_row rv
      rw [ints_row] at hQ
      have okr := pf.1 r mr
      exact ⟨.ref c, rfl, c, r, rfl, hc, by omega, fun _ H'' s'' => hQ H'' s'', fun e => by have := fp r mr; omega⟩
    have eF : H1 F1 = some (.lst ((room.map fun r => (fpR r : Int)).map V.int)) := by
      rw [List.map_map] at eF
      rw [List.map_map, eF]
      congr 2
      apply List.map_congr_left
      intro r _
      show V.int (fpR (intsOf (rowD r)) : Int) = V.int (fpR r : Int)
      rw [ints_row]
    refine ⟨.int p, rfl, .int n, rfl, .int n, rfl, n, rfl, by omega, by omega, fun D nD => ?_⟩
    have hA1 := Same.tup s1 hA
    refine lc_it (walk_range (lo := 0) (n := n)) (fun k H' => Same H1 H' ∧ ∃ vs' : List V, H' D = some (.lst vs') ∧ vs'.length ≤ k ∧ DpAll K H' vs' ((((List.range k).filter fun j => !decide (j ∈ room.map fpR)).map (crossR p n room)).map rowD)) ⟨same_upd nD, [], upd_same, Nat.le_refl _, .nil⟩ (fun _ _ _ _ => True.intro) (fun k x H2 H3 hk hP hY => ?_) (fun H' hP => ?_)
    · obtain ⟨rfl, rfl⟩ := hY
      obtain ⟨sm, vs', eD, lv, dv⟩ := hP
      refine ⟨rfl, .int (0 + k), rfl, .ref F1, rfl, F1, _, rfl, .inl (.inl (.inl (sm _ _ eF))), rfl, ?_, _, rfl, ?_⟩
      · rw [List.all_map]
        exact List.all_eq_true.mpr fun _ _ => rfl
      rw [in_ints]
      have ed : decide ((0 : Int) + (k : Int) ∈ room.map fun r => (fpR r : Int)) = decide (k ∈ room.map fpR) := by
        refine decide_eq_decide.mpr ?_
        rw [List.mem_map, List.mem_map]
        constructor
        · rintro ⟨r, hr, e⟩
          exact ⟨r, hr, by omega⟩
        · rintro ⟨r, hr, e⟩
          exact ⟨r, hr, by omega⟩
      rw [ed]
      have tkr := range_filter_succ (fun j => !decide (j ∈ room.map fpR)) k
      by_cases hin : k ∈ room.map fpR
      · rw [decide_eq_true hin] at tkr ⊢
        refine iteF ⟨sm, vs', eD, by omega, ?_⟩
        rw [tkr, if_neg (by decide), List.append_nil]
        exact dv
      · rw [decide_eq_false hin] at tkr ⊢
        refine iteT ⟨.int p, rfl, .int n, rfl, .ref a, rfl, .int (0 + k), rfl, a, room, p, n, k, by rw [Int.zero_add]; rfl, ⟨ws, Same.tup sm hA1, dpAll_same (s1.trans sm) _ _ hR⟩, pf.1, fp, hk, by omega, by omega, fun H4 l s4 e4 => ?_⟩
        have eD4 := s4 _ _ eD
        have tk : Tk H4 (upd H4 D (.lst (vs' ++ [.ref l]))) := Tk.mut (Tk.refl H4) eD4
        refine ⟨vs', eD4, small1000 (by omega), same_mut (sm.trans s4) nD, vs' ++ [.ref l], upd_same, by rw [List.length_append]; simp; omega, ?_⟩
        rw [tkr, if_pos (by decide), List.map_append, List.map_append]
        exact dpAll_append (dpAll_tk tk _ _ (noL_rows _) (dpAll_same s4 _ _ dv)) (.cons (row_dp (tk K _ _ (.inl (.inl e4)))) .nil)
    · obtain ⟨sm, vs', eD, lv, dv⟩ := hP
      refine ⟨D, vs', rfl, .inl ⟨.inl (.inl eD), fun l nl => ?_⟩⟩
      generalize h5 : upd H' l _ = H5
      obtain ⟨s5, e5⟩ := new_of h5 nl
      refine ⟨l, (freesR n room).map (crossR p n room), p, n, rfl, ⟨vs', .inl (.inl e5), dpAll_same s5 _ _ dv⟩, free_rows h2 n room, hF, n1, hn, hp, fun H6 l6 s6 h6 => ?_⟩
      exact q H6 l6 (((s1.trans sm).trans s5).trans s6) h6
def sp_parted (K : PySem.W.Frag) : Sp := fun vs H Q _ => ∃ (a b : Addr) (rs : List (List Int)) (r : List Int) (p : Int) (n : Nat), vs = [.int p, .int (n : Int), .ref a, .ref b] ∧ RowsAt K H a rs ∧ SqT K H b (r.map V.int) ∧ RowsOk p n rs ∧ RowsOk p n [r] ∧ Fld p ∧ 1 ≤ n ∧ n ≤ 100 ∧ p ≤ 1000 ∧
  (hasR p n rs r = true → ∀ H', Same H H' → Q .non H') ∧
  (hasR p n rs r = false → ∀ H' l wd, Same H H' → RowsAt K H' l [List.replicate n 0, wd] → RowsOk p n [wd] → (∀ x ∈ rs, worthR p x wd = 0) → worthR p r wd ≠ 0 → Q (.ref l) H')
theorem ok_parted (T : Top K mg) : Ok P w K mg base 7 "parted" ["p", "n", "rows", "row"] (sp_parted K) := by
  have O_across := ok_across (P := P) (w := w) (base := base) T
  have O_room_of := ok_room_of (P := P) (w := w) (base := base) T
  have O_worth := ok_worth (P := P) (w := w) (base := base) T
  refine T.d_parted.ok sc_parted (fun vs H Q E h => ?_) (fun f cdv A outer s H vs Q E hr h => ?_)
  · obtain ⟨a, b, rs, r, p, n, rfl, _⟩ := h
    rfl
  · obtain ⟨a, b, rs, r, p, n, rfl, hA, hB, ok, okr, hF, n1, hn, hp, q1, q2⟩ := h
    have h2 := hF.1
    have okr' := okr r List.mem_cons_self
    refine ⟨_, ((pss_cons (ps_for PassesOwn.never (by rfl) (pi_tup (pe_callO O_across (hr.mono (by omega)) (by rfl) (pa_cons (pv 0) (pa_cons (pv 1) (pa_cons (pe_callO O_room_of (hr.mono (by omega)) (by rfl) (pa_cons (pv 0) (pa_cons (pv 1) (pa_cons (pv 2) pa_nil)))) pa_nil))))) (pg_name (i := 4) sc_parted.nd rfl (.inl rfl))
        (pss_one (ps_if (pt_cmpR op_ne (pe_callO O_worth (hr.mono (by omega)) (by rfl) (pa_cons (pv 0) (pa_cons (pv 3) (pa_cons (pv 4) pa_nil)))) pe_int (nomark _))
          (pss_one (ps_ret (pe_tup (pa_cons (pe_op op_repB (pe_tup (pa_cons pe_int pa_nil)) (pv 1)) (pa_cons (pv 4) pa_nil)))))
          pss_nil)))
      (pss_one (ps_ret pe_non)))), ?_⟩
    refine ⟨.int p, rfl, .int n, rfl, .int p, rfl, .int n, rfl, .ref a, rfl, a, rs, p, n, rfl, hA, ok, hF, n1, hn, hp, fun H1 l1 s1 h1 => ?_⟩
    refine ⟨l1, plainR p n rs, p, n, rfl, h1, PFR.of_plain hF ok, hF, n1, hn, hp, fun H2 l2 s2 h2' => ?_⟩
    have parts := across_parts hF ok okr
    have wz := fun x hx wd hwd => across_worth hF ok (r := x) (w := wd) hx hwd
    have oka := (PFR.across hF n (plainR p n rs)).1
    generalize acrossR p n (plainR p n rs) = ac at h2' parts wz oka
    obtain ⟨ws, hC, hR⟩ := h2'
    have lw := rows_len hR
    have s12 := s1.trans s2
    refine ⟨l2, rfl, ⟨_, hC⟩, for_it (walk_tup (K := K) (a := l2) (xs := ws)) (fun i σ H' => Same H2 H' ∧ (∀ w ∈ ac.take i, worthR p r w = 0) ∧ ∃ y4 : Option V, σ = [some (.int p), some (.int (n : Int)), some (.ref a), some (.ref b), y4]) ⟨Same.refl H2, fun w hw => by rw [List.take_zero] at hw; exact (nomatch hw), none, rfl⟩ (fun i σ H' _ hW => Same.tup hW.1 hC) (fun i x σ H3 H4 hi hW hY => ?_) (fun σ H' hW => ?_)⟩
    · obtain ⟨sm, hz, y4, rfl⟩ := hW
      obtain ⟨rfl, e1⟩ := hY
      obtain ⟨c, wd, rfl, gr, mr, hc⟩ := dpAll_row (dpAll_same sm _ _ hR) e1
      have okw := oka wd mr
      have hB4 := Same.tup (s12.trans sm) hB
      refine ⟨.int p, rfl, .ref b, rfl, .ref c, rfl, b, c, r, wd, p, rfl, hB4, hc, by omega, by omega, by omega, okr'.2, fun H5 s5 => ?_⟩
      refine ⟨rfl, _, rfl, ite2 (fun e => ?_) (fun e => ?_)⟩
      · have nz : worthR p r wd ≠ 0 := fun z => by
          rw [z] at e
          cases e
        have hno : hasR p n rs r = false := by
          rw [Bool.eq_false_iff]
          intro z
          exact nz (parts.mpr z wd mr)
        refine ⟨sz1000 (by decide : (1 : Nat) ≤ 1000), fun z0 nz0 => ?_⟩
        generalize h6 : upd H5 z0 _ = H6
        obtain ⟨s6, e6⟩ := new_of h6 nz0
        refine ⟨.int n, rfl, z0, n, _, rfl, rfl, .inl (.inl e6), by simp, by omega, by omega, by simp, fun z1 H7 s7 e7 => ?_⟩
        rw [show ((n : Int)).toNat = n from rfl, rep_int] at e7
        refine ⟨.ref c, rfl, sz1000 (by decide : (2 : Nat) ≤ 1000), fun t nt => ?_⟩
        generalize h8 : upd H7 t _ = H8
        obtain ⟨s8, e8⟩ := new_of h8 nt
        refine q2 hno H8 t wd ((((s12.trans sm).trans s5).trans s6).trans (s7.trans s8)) ⟨_, .inl (.inl e8), ?_⟩ (rowsOk_one okw) (fun x hx => wz x hx wd mr) nz
        exact .cons (row_dp (Same.tup s8 e7)) (.cons (row_dp (Same.tup (((s5.trans s6).trans s7).trans s8) hc)) .nil)
      · refine ⟨sm.trans s5, fun w' hw' => ?_, _, rfl⟩
        rw [List.take_add_one, gr] at hw'
        rcases List.mem_append.mp hw' with hw' | hw'
        · exact hz w' hw'
        · have : w' = wd := by simpa using hw'
          rw [this]
          apply Classical.byContradiction
          intro hn'
          apply e
          rw [decide_eq_false (fun z => hn' (V.int.inj z))]
          rfl
    · obtain ⟨sm, hz, y4, rfl⟩ := hW
      rw [List.take_of_length_le (by omega)] at hz
      exact q1 (parts.mp hz) H' (s12.trans sm)
def partedD (p : Int) (n : Nat) (rs : List (List Int)) (r : List Int) : PyData → Bool
  | .tuple [x, y] => isRowD p n x && isRowD p n y && !decide (worthR p r (intsOf x) = worthR p r (intsOf y)) && rs.all fun z => decide (worthR p z (intsOf x) = worthR p z (intsOf y))
  | _ => false
theorem parted_len {p : Int} {n : Nat} {rs : List (List Int)} {r : List Int} {ds : List PyData} (h : ds.length ≠ 2) : partedD p n rs r (.tuple ds) = false := by
  match ds, h with
  | [], _ => rfl
  | [_], _ => rfl
  | [_, _], h => exact absurd rfl h
  | _ :: _ :: _ :: _, _ => rfl
def sp_parted_hold (K : PySem.W.Frag) : Sp := fun vs H Q _ => ∃ (a b : Addr) (rs : List (List Int)) (r : List Int) (p : Int) (n : Nat) (v : V) (e : PyData), vs = [.int p, .int (n : Int), .ref a, .ref b, v] ∧ RowsAt K H a rs ∧ SqT K H b (r.map V.int) ∧ RowsOk p n rs ∧ RowsOk p n [r] ∧ rs.length ≤ 1000 ∧ Rep K H NB v e ∧ lenOk2 e ∧ 2 ≤ p ∧ n ≤ 100 ∧ p ≤ 1000 ∧
  ∀ H', Same H H' → Q (.bl (partedD p n rs r e)) H'
theorem ok_parted_hold (T : Top K mg) : Ok P w K mg base 4 "parted_hold" ["p", "n", "rows", "row", "thing"] (sp_parted_hold K) := by
  have O_is_row := ok_is_row (P := P) (w := w) (base := base) T
  have O_worth := ok_worth (P := P) (w := w) (base := base) T
  refine T.d_parted_hold.ok sc_parted_hold (fun vs H Q E h => ?_) (fun f cdv A outer s H vs Q E hr h => ?_)
  · obtain ⟨a, b, rs, r, p, n, v, e, rfl, _⟩ := h
    rfl
  · obtain ⟨a, b, rs, r, p, n, v, e, rfl, ⟨ws, hA, hR⟩, hB, ok, okr, lrs, hv, hl, h2, hn, hp, q⟩ := h
    have okr' := okr r List.mem_cons_self
    have lw := rows_len hR
    refine ⟨_, ((pss_cons (ps_if (PW.pt (pw_or (pt_not (pt_val (pe_callB call_isi (by rfl) T.b_isinstance (by decide +kernel) (pa_cons (pv 4) (pa_cons (pe_bltn (v := .ty "tuple") (u := .type "tuple") (by rfl) T.b_tuple (by decide +kernel) rfl) pa_nil))))) (pw_or (pt_cmpR op_ne (pe_callB call_len_seq (by rfl) T.b_len (by decide +kernel) (pa_cons (pv 4) pa_nil)) pe_int (nomark _)) (pw_or1 (pt_not (pt_val (pe_callB (cr_all (by rfl)) (by rfl) T.b_all (by decide +kernel) (pa_cons (pe_lc (own := [("world", 5)]) (g := gName 5) (by rfl) sc_parted_hold.nd (pi_tup (pv 4)) (blkOk_by (own := [("world", 5)]) (N := N_parted_hold) (sc := defScope s_parted_hold) (by decide +kernel)) (fun _ _ _ _ _ => (pg_name (i := 5) sc_parted_hold.nd rfl (.inl rfl))) (fun _ _ _ _ _ => pts_nil) (fun _ _ _ _ _ => (pe_callO O_is_row (hr.mono (by omega)) (by rfl) (pa_cons (pv 0) (pa_cons (pv 1) (pa_cons (pv 5) pa_nil)))))) pa_nil))))))))
        (pss_one (ps_ret pe_bl))
        pss_nil)
      (pss_cons (ps_asg (pv 4) (pg_tup (by rfl) (pgs_cons (pg_name (i := 6) sc_parted_hold.nd rfl (.inr rfl)) (pgs_cons (pg_name (i := 7) sc_parted_hold.nd rfl (.inr rfl)) pgs_nil))))
      (pss_cons (ps_if (pt_cmpR op_eq (pe_callO O_worth (hr.mono (by omega)) (by rfl) (pa_cons (pv 0) (pa_cons (pv 3) (pa_cons (pv 6) pa_nil)))) (pe_callO O_worth (hr.mono (by omega)) (by rfl) (pa_cons (pv 0) (pa_cons (pv 3) (pa_cons (pv 7) pa_nil)))) (nomark _))
        (pss_one (ps_ret pe_bl))
        pss_nil)
      (pss_one (ps_ret (pe_callB (cr_all (by rfl)) (by rfl) T.b_all (by decide +kernel) (pa_cons (pe_lc (own := [("heard", 8)]) (g := gName 8) (by rfl) sc_parted_hold.nd (pi_tup (pv 2)) (blkOk_by (own := [("heard", 8)]) (N := N_parted_hold) (sc := defScope s_parted_hold) (by decide +kernel)) (fun _ _ _ _ _ => (pg_name (i := 8) sc_parted_hold.nd rfl (.inl rfl))) (fun _ _ _ _ _ => pts_nil) (fun _ _ _ _ _ => (pe_cmpR op_eq (pe_callO O_worth (hr.mono (by omega)) (by rfl) (pa_cons (pv 0) (pa_cons (pv 8) (pa_cons (pv 6) pa_nil)))) (pe_callO O_worth (hr.mono (by omega)) (by rfl) (pa_cons (pv 0) (pa_cons (pv 8) (pa_cons (pv 7) pa_nil)))) (nomark _)))) pa_nil)))))))), ?_⟩
    refine ⟨v, rfl, v, .ty "tuple", _, _, _, rfl, .ty "tuple", hv.kd, kit_tuple _, _, rfl, ?_⟩
    cases hv with
    | @tup t xs ds hT hx =>
      have lx := repAll_len hx
      obtain ⟨hl1, hl2⟩ := hl
      refine iteF ⟨.ref t, rfl, t, xs, rfl, .inr hT, rfl, _, rfl, ?_⟩
      by_cases h2' : ds.length = 2
      · rw [decide_eq_true (show V.int ((xs.length : Nat) : Int) = V.int 2 by rw [lx, h2']; rfl)]
        refine iteF ⟨.ref t, rfl, t, rfl, ⟨_, hT⟩, lc_valR (fun d => V.bl (isRowD p n d)) (walk_tup (K := K) (a := t) (xs := xs)) (fun H' s => Same.tup s hT) hx (by omega) (fun _ => rfl) (fun v d H' Q' md rv sm hQ => ?_) (fun D H1 s1 nD eD => ?_)⟩
        · exact ⟨.int p, rfl, .int n, rfl, v, rfl, p, n, v, d, rfl, rv, hl2 d md, hQ⟩
        have eD : H1 D = some (.lst ((ds.map (isRowD p n)).map V.bl)) := by rw [List.map_map]; exact eD
        refine ⟨D, _, rfl, .inl (.inl eD), _, rfl, ?_⟩
        rw [all_id]
        match ds, hx, h2', lx with
        | [d1, d2], hx, _, lx =>
          cases hx with
          | @cons v1 _ _ _ r1 hx =>
            cases hx with
            | @cons v2 _ _ _ r2 hx =>
              cases hx
              have ed : [d1, d2].all (isRowD p n) = (isRowD p n d1 && isRowD p n d2) := by simp
              rw [ed]
              by_cases hall : (isRowD p n d1 && isRowD p n d2) = true
              · have hall' := hall
                rw [Bool.and_eq_true] at hall'
                obtain ⟨e1, l1, o1⟩ := row_of hall'.1
                obtain ⟨e2, l2, o2⟩ := row_of hall'.2
                have q' : ∀ H', Same H H' → Q (.bl (!decide (worthR p r (intsOf d1) = worthR p r (intsOf d2)) && rs.all fun z => decide (worthR p z (intsOf d1) = worthR p z (intsOf d2)))) H' := fun H' s' => by
                  have := q H' s'
                  rw [show partedD p n rs r (.tuple [d1, d2]) = ((isRowD p n d1 && isRowD p n d2) && !decide (worthR p r (intsOf d1) = worthR p r (intsOf d2)) && rs.all fun z => decide (worthR p z (intsOf d1) = worthR p z (intsOf d2))) from rfl, hall, Bool.true_and] at this
                  exact this
                rw [hall]
                rw [e1] at r1
                rw [e2] at r2
                obtain ⟨c1, rfl, hc1⟩ := rep_row (rep_stays (Stays.of s1) _ _ r1)
                obtain ⟨c2, rfl, hc2⟩ := rep_row (rep_stays (Stays.of s1) _ _ r2)
                generalize intsOf d1 = i1 at *
                generalize intsOf d2 = i2 at *
                refine iteF ⟨.ref t, rfl, t, _, rfl, Same.tup s1 hT, rfl, .ref c1, [.ref c2], rfl, .ref c2, [], rfl, rfl, ?_⟩
                have hB1 := Same.tup s1 hB
                refine ⟨.int p, rfl, .ref b, rfl, .ref c1, rfl, b, c1, r, i1, p, rfl, hB1, hc1, by omega, by omega, by omega, okr'.2, fun H2 s2 => ?_⟩
                refine ⟨.int p, rfl, .ref b, rfl, .ref c2, rfl, b, c2, r, i2, p, rfl, Same.tup s2 hB1, Same.tup s2 hc2, by omega, by omega, by omega, okr'.2, fun H3 s3 => ?_⟩
                have t13 := s2.trans s3
                refine ⟨rfl, _, rfl, ite2 (fun e => ?_) (fun e => ?_)⟩
                · have e : worthR p r i1 = worthR p r i2 := V.int.inj (of_decide_eq_true e)
                  have := q' H3 (s1.trans t13)
                  rw [decide_eq_true e] at this
                  exact this
                · have e : ¬ worthR p r i1 = worthR p r i2 := fun z => e (decide_eq_true (congrArg V.int z))
                  have hA3 := Same.tup (s1.trans t13) hA
                  have hR3 := dpAll_same (s1.trans t13) _ _ hR
                  refine ⟨.ref a, rfl, a, rfl, ⟨_, hA3⟩, lc_valR (fun d => V.bl (decide (worthR p (intsOf d) i1 = worthR p (intsOf d) i2))) (walk_tup (K := K) (a := a) (xs := ws)) (fun H' s => Same.tup s hA3) (rep_rows hR3) (by omega) (fun _ => rfl) (fun v d H' Q' md rv sm hQ => ?_) (fun D2 H4 s4 nD2 eD2 => ?_)⟩
                  · obtain ⟨x, mx, rfl⟩ := List.mem_map.mp md
                    obtain ⟨cx, rfl, hcx⟩ := rep_row rv
                    rw [ints_row] at hQ
                    have okx := ok x mx
                    refine ⟨.int p, rfl, .ref cx, rfl, .ref c1, rfl, cx, c1, x, i1, p, rfl, hcx, Same.tup (t13.trans sm) hc1, by omega, by omega, by omega, okx.2, fun H5 s5 => ?_⟩
                    refine ⟨.int p, rfl, .ref cx, rfl, .ref c2, rfl, cx, c2, x, i2, p, rfl, Same.tup s5 hcx, Same.tup ((t13.trans sm).trans s5) hc2, by omega, by omega, by omega, okx.2, fun H6 s6 => ?_⟩
                    refine ⟨rfl, ?_⟩
                    rw [show decide (V.int (worthR p x i1) = V.int (worthR p x i2)) = decide (worthR p x i1 = worthR p x i2) from decide_eq_decide.mpr ⟨fun e => V.int.inj e, fun e => congrArg V.int e⟩]
                    exact hQ H6 (s5.trans s6)
                  have eD2 : H4 D2 = some (.lst ((rs.map fun z => decide (worthR p z i1 = worthR p z i2)).map V.bl)) := by
                    rw [List.map_map] at eD2
                    rw [List.map_map, eD2]
                    congr 2
                    apply List.map_congr_left
                    intro x _
                    show V.bl (decide (worthR p (intsOf (rowD x)) i1 = worthR p (intsOf (rowD x)) i2)) = _
                    rw [ints_row]
                    rfl
                  refine ⟨D2, _, rfl, .inl (.inl eD2), ?_⟩
                  rw [all_id]
                  have := q' H4 ((s1.trans t13).trans s4)
                  rw [decide_eq_false e, Bool.not_false, Bool.true_and] at this
                  exact this
              · have hf : (isRowD p n d1 && isRowD p n d2) = false := by simpa using hall
                rw [hf]
                have := q H1 s1
                rw [show partedD p n rs r (.tuple [d1, d2]) = ((isRowD p n d1 && isRowD p n d2) && !decide (worthR p r (intsOf d1) = worthR p r (intsOf d2)) && rs.all fun z => decide (worthR p z (intsOf d1) = worthR p z (intsOf d2))) from rfl, hf, Bool.false_and, Bool.false_and] at this
                exact iteT this
      · rw [decide_eq_false (show ¬ V.int ((xs.length : Nat) : Int) = V.int 2 from fun z => h2' (by have := V.int.inj z; omega))]
        have := q H (Same.refl H)
        rw [parted_len h2'] at this
        exact iteT this
    | _ => exact iteT (q H (Same.refl H))
def sp_deck (K : PySem.W.Frag) : Sp := fun vs H Q _ => ∃ (a : Addr) (ns : List Int), vs = [.ref a] ∧ SqL K H a (ns.map V.int) ∧ ns.length ≤ 63 ∧ ∀ H' d c, Same H H' → Deck H' d c 0 → H d = none → H c = none → Q (.ref d) H'
theorem ok__law_deck (T : Top K mg) : Ok P w K mg base 1 "_law_deck" ["_law_script"] (sp_deck K) := by
  refine T.d__law_deck.ok sc__law_deck (fun vs H Q E h => ?_) (fun f cdv A outer s H vs Q E hr h => ?_)
  · obtain ⟨a, ns, rfl, _⟩ := h
    rfl
  · obtain ⟨a, ns, rfl, hS, hl, q⟩ := h
    refine ⟨_, ((pss_one (ps_ret (pe_lst (pa_cons (pe_lc (own := [("_law_cell", 1)]) (g := gName 1) (by rfl) sc__law_deck.nd (pi_list (pe_slice sl_list (pv 0) po_none (po_some pe_int))) (blkOk_by (own := [("_law_cell", 1)]) (N := N__law_deck) (sc := defScope s__law_deck) (by decide +kernel)) (fun _ _ _ _ _ => (pg_name (i := 1) sc__law_deck.nd rfl (.inl rfl))) (fun _ _ _ _ _ => pts_nil) (fun _ _ _ _ _ => (pe_callB call_abs (by rfl) T.b_abs (by decide +kernel) (pa_cons (pv 1) pa_nil)))) (pa_cons pe_int pa_nil)))))), ?_⟩
    refine ⟨.ref a, rfl, 63, rfl, a, ns.map V.int, rfl, hS, fun l nl => ?_⟩
    have ec : cutV (ns.map V.int) none (some 63) = ns.map V.int := by
      unfold cutV
      rw [HT.sIx_none, show HT.sIx (ns.map V.int).length (ns.map V.int).length (some 63) = min 63 (ns.map V.int).length from HT.sIx_nat _ _ 63]
      rw [List.drop_zero]
      exact List.take_of_length_le (by rw [List.length_map]; omega)
    rw [ec]
    have s1 : Same H (upd H l (.lst (ns.map V.int))) := same_upd nl
    refine ⟨l, rfl, ⟨_, .inl (.inl upd_same)⟩, fun D nD => ?_⟩
    have nl' : H D = none := s1.free nD
    have nDl : l ≠ D := ne_of_none upd_same nD
    refine lc_list (xs := ns.map V.int) (fun i H' => Same H H' ∧ H' l = some (.lst (ns.map V.int)) ∧ H' D = some (.lst ((ns.take i).map fun x => V.int (if x < 0 then -x else x)))) ⟨same_mut s1 nl', ?_, ?_⟩ (fun i H' _ hP => .inl (.inl hP.2.1)) (fun i x H' hx hP => ?_) (fun H' hP => ?_)
    · rw [upd_ne nDl, upd_same]
    · rw [upd_same]; rfl
    · obtain ⟨sm, e1, e2⟩ := hP
      rw [List.getElem?_map] at hx
      cases hn : ns[i]? with
      | none => rw [hn] at hx; cases hx
      | some z =>
        rw [hn] at hx
        have ez : x = V.int z := (Option.some.inj hx).symm
        subst ez
        refine ⟨rfl, .int z, rfl, z, rfl, _, e2, ?_, same_mut sm nl', ?_, ?_⟩
        · rw [List.length_map, List.length_take]
          exact Nat.lt_of_le_of_lt (Nat.min_le_right _ _) (small1000 (by omega))
        · rw [upd_ne nDl]; exact e1
        · rw [upd_same, List.take_add_one, hn, List.map_append]
          rfl
    · obtain ⟨sm, e1, e2⟩ := hP
      rw [List.length_map, List.take_length] at e2
      refine ⟨(by show 2 ≤ sizeLine; decide), fun p np => ?_⟩
      have sp : Same H' (upd H' p (.lst [.ref D, .int 0])) := same_upd np
      refine q _ p D (sm.trans sp) ⟨upd_same, ⟨ns.map fun x => if x < 0 then -x else x, ?_, fun x hx => ?_, by rw [List.length_map]; exact hl⟩, fun z => ?_, by decide⟩ (sm.free np) nl'
      · rw [sp _ _ e2, List.map_map]
        rfl
      · obtain ⟨y, _, rfl⟩ := List.mem_map.mp hx
        by_cases hy : y < 0
        · rw [if_pos hy]; omega
        · rw [if_neg hy]; omega
      · subst z
        rw [e2] at np
        cases np
theorem ok_needed (T : Top K mg) : Ok P w K mg base 5 "needed" ["p", "n", "rows"] (sp_needed K) := by
  have O_within := ok_within (P := P) (w := w) (base := base) T
  have O_widened := ok_widened (P := P) (w := w) (base := base) T
  refine T.d_needed.ok sc_needed (fun vs H Q E h => ?_) (fun f cdv A outer s H vs Q E hr h => ?_)
  · obtain ⟨a, ws, rs, p, n, rfl, _⟩ := h
    rfl
  · obtain ⟨a, ws, rs, p, n, rfl, hA, hR, hl, hro, hF, hp, hn, q⟩ := h
    have h2 := hF.1
    refine ⟨_, ((pss_cons (ps_set (i := 3) sc_needed.nd rfl (.inl rfl) (pe_lst pa_nil))
      (pss_cons (ps_set (i := 4) sc_needed.nd rfl (.inl rfl) (pe_tup pa_nil))
      (pss_cons (ps_for PassesOwn.never (by rfl) (pi_enumT (by rfl) T.b_enumerate (pa_cons (pv 2) pa_nil)) (pg_tup (by rfl) (pgs_cons (pg_name (i := 5) sc_needed.nd rfl (.inl rfl)) (pgs_cons (pg_name (i := 6) sc_needed.nd rfl (.inl rfl)) pgs_nil)))
        (pss_one (ps_if (pt_not (pt_val (pe_callO O_within (hr.mono (by omega)) (by rfl) (pa_cons (pv 0) (pa_cons (pv 4) (pa_cons (pv 6) pa_nil))))))
          (pss_cons (ps_expr (pe_bm PySem.F.plainAttrs_list PySem.F.slot_list_append PySem.F.type_list_append mt_append (pv 3) (pa_cons (pv 5) pa_nil)))
          (pss_one (ps_set (i := 4) sc_needed.nd rfl (.inl rfl) (pe_callO O_widened (hr.mono (by omega)) (by rfl) (pa_cons (pv 0) (pa_cons (pv 4) (pa_cons (pv 6) pa_nil)))))))
          pss_nil)))
      (pss_one (ps_ret (pe_callTy call_tuple_of (by rfl) T.b_tuple (by decide +kernel) (pa_cons (pv 3) pa_nil)))))))), ?_⟩
    have lw := rows_len hR
    refine ⟨Nat.zero_le _, fun o no => ?_⟩
    generalize h1 : upd H o _ = H1
    obtain ⟨s1, e1⟩ := new_of h1 no
    refine ⟨Nat.zero_le _, fun z nz => ?_⟩
    generalize hh : upd H1 z _ = H2
    obtain ⟨s2, e2⟩ := new_of hh nz
    have s12 := s1.trans s2
    refine ⟨.ref a, rfl, a, _, rfl, Same.tup s12 hA, for_it (walk_enumT (K := K) (a := a) (xs := ws)) (fun k σ H' => Same H H' ∧ ∃ (y5 y6 : Option V) (b : Addr), RowsAt K H' b (plainR p n (rs.take k)) ∧ H' o = some (.lst (numsV (needR p n (rs.take k)))) ∧ σ = [some (.int p), some (.int (n : Int)), some (.ref a), some (.ref o), some (.ref b), y5, y6])
      ⟨s12, none, none, z, ⟨[], .inl (.inl e2), ?_⟩, ?_, rfl⟩ (fun k σ H' _ hW => Same.tup hW.1 hA) (fun k v σ H3 H4 hk hW hY => ?_) (fun σ H3 hW => ?_)⟩
    · rw [List.take_zero, plainR_nil]
      exact .nil
    · rw [List.take_zero]
      exact s2 _ _ e1
    · obtain ⟨s3, y5, y6, b, hb, eo, rfl⟩ := hW
      obtain ⟨Ta, x, y, rfl, nT, rfl, g1, g2⟩ := hY
      have g1 : x = V.int (k : Nat) := (Option.some.inj g1).symm
      have g2 : ws[k]? = some y := g2
      obtain ⟨c, r, rfl, gr, mr, hc⟩ := dpAll_row (dpAll_same s3 _ _ hR) g2
      subst g1
      have sT : Same H3 (upd H3 Ta (.tup [.int (k : Nat), .ref c])) := same_upd nT
      generalize hT : upd H3 Ta (.tup [.int (k : Nat), .ref c]) = HT at sT
      have eT : HT Ta = some (.tup [.int (k : Nat), .ref c]) := by rw [← hT]; exact upd_same
      refine ⟨Ta, [.int (k : Nat), .ref c], rfl, .inl (.inl eT), rfl, .int (k : Nat), [.ref c], rfl, .ref c, [], rfl, rfl, ?_⟩
      have hk' : k < rs.length := by omega
      have er : rs[k] = r := by
        rw [List.getElem?_eq_getElem hk'] at gr
        exact Option.some.inj gr
      have okt : RowsOk p n (rs.take k) := fun x hx => hro x (List.mem_of_mem_take hx)
      have okr : RowsOk p n [r] := rowsOk_one (hro r mr)
      have pf := PFR.of_plain hF okt
      have eapp : rs.take (k + 1) = rs.take k ++ [r] := by
        rw [List.take_add_one, gr]
        rfl
      have epl : plainR p n (plainR p n (rs.take k) ++ [r]) = plainR p n (rs.take (k + 1)) := by
        rw [eapp]
        exact plainR_app hF okt okr
      refine ⟨.int p, rfl, .ref b, rfl, .ref c, rfl, c, b, plainR p n (rs.take k), r, p, n, rfl, RowsAt.same sT hb, Same.tup sT hc, pf, okr, hF, hn, hp, fun H5 s5 => ?_⟩
      have eo5 := s5 _ _ (sT _ _ eo)
      have t5 := (s3.trans sT).trans s5
      have hh5 : hasR p n (plainR p n (rs.take k)) r = decide ((plainR p n (rs.take (k + 1))).length = (plainR p n (rs.take k)).length) := by
        unfold hasR
        rw [epl, pf.2]
      rw [hh5]
      have en := need_take p n rs k hk'
      have lk : (needR p n (rs.take k)).length ≤ k := by
        have h1 : (needR p n (rs.take k)).length ≤ (List.range (rs.take k).length).length := List.length_filter_le _ _
        rw [List.length_range, List.length_take] at h1
        omega
      have mono : (plainR p n (rs.take k)).length < (plainR p n (rs.take (k + 1))).length ∨ (plainR p n (rs.take (k + 1))).length = (plainR p n (rs.take k)).length := by
        rw [eapp]
        obtain ⟨q', rfl, _, hF'⟩ := to_q hF
        by_cases hm : Mk q' (rs.take k) (toV r)
        · exact .inr ((plainR_has hF' okt okr).mpr hm)
        · exact .inl ((plainR_grows hF' okt okr).mpr hm)
      refine ⟨_, rfl, ?_⟩
      rcases mono with hlt | heq
      · have n1 : 1 ≤ n := by
          have := plainR_lenle hF (show RowsOk p n (rs.take (k + 1)) by rw [eapp]; exact rowsOk_app okt okr)
          omega
        rw [decide_eq_false (by omega)]
        rw [if_pos hlt] at en
        refine iteT ⟨.ref o, rfl, .inl ⟨rfl, _, .inl (.inl eo5)⟩, .int (k : Nat), rfl, o, _, _, rfl, rfl, eo5, ?_, ?_⟩
        · exact small1000 (by rw [numsV, List.length_map]; omega)
        have tk : Tk H5 (upd H5 o (.lst (numsV (needR p n (rs.take k)) ++ [V.int (k : Nat)]))) := Tk.mut (Tk.refl H5) eo5
        have sH : Same H (upd H5 o (.lst (numsV (needR p n (rs.take k)) ++ [V.int (k : Nat)]))) := same_mut t5 no
        generalize hU : upd H5 o (.lst (numsV (needR p n (rs.take k)) ++ [V.int (k : Nat)])) = HU at tk sH
        have eU : HU o = some (.lst (numsV (needR p n (rs.take k)) ++ [V.int (k : Nat)])) := by rw [← hU]; exact upd_same
        obtain ⟨ws5, b1, b2⟩ := RowsAt.same (sT.trans s5) hb
        have hbU : RowsAt K HU b (plainR p n (rs.take k)) := ⟨ws5, tk K _ _ b1, dpAll_tk tk _ _ (noL_rows _) b2⟩
        have hcU := tk K _ _ (Same.tup (sT.trans s5) hc)
        refine ⟨.int p, rfl, .ref b, rfl, .ref c, rfl, c, b, plainR p n (rs.take k), r, p, n, rfl, hbU, hcU, pf, okr, hF, n1, hn, hp, fun H6 l s6 h6 => ?_⟩
        rw [epl] at h6
        refine ⟨sH.trans s6, _, _, l, h6, ?_, rfl⟩
        rw [en, s6 _ _ eU]
        show some (HO.lst (numsV (needR p n (rs.take k)) ++ [V.int (k : Int)])) = some (HO.lst (numsV (needR p n (rs.take k) ++ [k])))
        rw [show numsV (needR p n (rs.take k) ++ [k]) = numsV (needR p n (rs.take k)) ++ [V.int (k : Int)] from List.map_append]
      · rw [decide_eq_true heq]
        rw [if_neg (by omega), List.append_nil] at en
        have esame : plainR p n (rs.take (k + 1)) = plainR p n (rs.take k) := by
          rw [← epl]
          have hz := (PFR.left_has hF pf okr).mpr (by rw [epl, pf.2]; exact heq)
          exact (pf.widen0 hF okr hz).symm
        refine iteF ⟨t5, _, _, b, ?_, ?_, rfl⟩
        · rw [esame]
          exact RowsAt.same (sT.trans s5) hb
        · rw [en]
          exact eo5
    · obtain ⟨s3, y5, y6, b, hb, eo, rfl⟩ := hW
      rw [List.take_of_length_le (by omega)] at eo
      refine ⟨.ref o, rfl, o, _, rfl, .inl ⟨.inl (.inl eo), fun l nl => ?_⟩⟩
      generalize h2 : upd H3 l _ = H2
      obtain ⟨s2, e2⟩ := new_of h2 nl
      exact q H2 l (s3.trans s2) e2
def sp_mark (K : PySem.W.Frag) : Sp := fun vs H Q _ => ∃ s i : Nat, vs = [.int (s : Int), .int (i : Int)] ∧ i < s ∧ s ≤ 1000 ∧ ∀ H' l, Same H H' → SqT K H' l ((markR s i).map V.int) → Q (.ref l) H'
theorem ok_mark (T : Top K mg) : Ok P w K mg base 1 "mark" ["size", "at"] (sp_mark K) := by
  refine T.d_mark.ok sc_mark (fun vs H Q E h => ?_) (fun f cdv A outer s H vs Q E hr h => ?_)
  · obtain ⟨m, i, rfl, _⟩ := h
    rfl
  · obtain ⟨m, i, rfl, hi, hm, q⟩ := h
    refine ⟨_, ((pss_one (ps_ret (pe_op op_catB (pe_op op_catB (pe_op op_repZ (pe_tup (pa_cons pe_int pa_nil)) (pv 1)) (pe_tup (pa_cons pe_int pa_nil))) (pe_op op_repZ (pe_tup (pa_cons pe_int pa_nil)) (pe_op op_sub (pe_op op_sub (pv 0) (pv 1)) pe_int)))))), ?_⟩
    refine ⟨sz1000 (by decide : (1 : Nat) ≤ 1000), fun u1 n1 => ?_⟩
    generalize h1 : upd H u1 _ = H1
    obtain ⟨s1, e1⟩ := new_of h1 n1
    refine ⟨.int i, rfl, u1, i, _, rfl, rfl, .inl (.inl e1), by simp, by omega, by omega, by simp, fun l2 H2 s2 h2 => ?_⟩
    rw [show ((i : Int)).toNat = i from rfl, rep_int] at h2
    refine ⟨sz1000 (by decide : (1 : Nat) ≤ 1000), fun u3 n3 => ?_⟩
    generalize h3 : upd H2 u3 _ = H3
    obtain ⟨s3, e3⟩ := new_of h3 n3
    refine ⟨l2, u3, _, _, rfl, rfl, Same.tup s3 h2, .inl (.inl e3), sz1000 (by simp; omega), fun l4 H4 s4 h4 => ?_⟩
    refine ⟨sz1000 (by decide : (1 : Nat) ≤ 1000), fun u5 n5 => ?_⟩
    generalize h5 : upd H4 u5 _ = H5
    obtain ⟨s5, e5⟩ := new_of h5 n5
    refine ⟨.int m, rfl, .int i, rfl, _, _, rfl, rfl, _, _, rfl, rfl, u5, _, _, rfl, rfl, .inl (.inl e5), by simp, by omega, by omega, by simp, fun l6 H6 s6 h6 => ?_⟩
    rw [show ((m : Int) - (i : Int) - 1).toNat = m - i - 1 by omega, rep_int] at h6
    refine ⟨l4, l6, _, _, rfl, rfl, Same.tup (s5.trans s6) h4, h6, sz1000 (by simp; omega), fun l7 H7 s7 h7 => ?_⟩
    refine q H7 l7 ((((s1.trans s2).trans s3).trans s4).trans ((s5.trans s6).trans s7)) ?_
    unfold markR
    rw [List.map_append, List.map_append]
    exact h7
def sp_makes (K : PySem.W.Frag) : Sp := fun vs H Q _ => ∃ (a b : Addr) (rs : List (List Int)) (r : List Int) (p : Int) (n : Nat), vs = [.int p, .int (n : Int), .ref a, .ref b] ∧ RowsAt K H a rs ∧ SqT K H b (r.map V.int) ∧ RowsOk p n rs ∧ RowsOk p n [r] ∧ rs.length ≤ 100 ∧ Fld p ∧ 1 ≤ n ∧ n ≤ 20 ∧ p ≤ 1000 ∧
  (hasR p n rs r = false → ∀ H', Same H H' → Q .non H') ∧
  (hasR p n rs r = true → ∀ H' l fs, Same H H' → H' l = some (.tup (fs.map V.int)) → fs.length = rs.length → (∀ x ∈ fs, 0 ≤ x ∧ x < p) → madeR p (List.replicate n 0) (rs.zip fs) = r → Q (.ref l) H')
theorem ok_makes (T : Top K mg) : Ok P w K mg base 6 "makes" ["p", "n", "rows", "row"] (sp_makes K) := by
  have O_needed := ok_needed (P := P) (w := w) (base := base) T
  have O_mark := ok_mark (P := P) (w := w) (base := base) T
  have O_left_of := ok_left_of (P := P) (w := w) (base := base) T
  have O_room_of := ok_room_of (P := P) (w := w) (base := base) T
  have O_is_noughts := ok_is_noughts (P := P) (w := w) (base := base) T
  refine T.d_makes.ok sc_makes (fun vs H Q E h => ?_) (fun f cdv A outer s H vs Q E hr h => ?_)
  · obtain ⟨a, b, rs, r, p, n, rfl, _⟩ := h
    rfl
  · obtain ⟨a, b, rs, r, p, n, rfl, ⟨ws, hA, hR⟩, hB, ok, okr, lrs, hF, n1, hn, hp, q1, q2⟩ := h
    have h2 := hF.1
    have okr' := okr r List.mem_cons_self
    have lw := rows_len hR
    refine ⟨_, ((pss_cons (ps_set (i := 4) sc_makes.nd rfl (.inl rfl) (pe_callO O_needed (hr.mono (by omega)) (by rfl) (pa_cons (pv 0) (pa_cons (pv 1) (pa_cons (pv 2) pa_nil)))))
      (pss_cons (ps_set (i := 5) sc_makes.nd rfl (.inr rfl) (pe_callB call_len_seq (by rfl) T.b_len (by decide +kernel) (pa_cons (pv 4) pa_nil)))
      (pss_cons (ps_set (i := 8) sc_makes.nd rfl (.inl rfl) (pe_callTy call_tuple_of (by rfl) T.b_tuple (by decide +kernel) (pa_cons (pe_lc (own := [("at", 6), ("number", 7)]) (g := gTup K 2 (gCons (gName 6) (gCons (gName 7) gNil))) (by rfl) sc_makes.nd (pi_enumT (by rfl) T.b_enumerate (pa_cons (pv 4) pa_nil)) (blkOk_by (own := [("at", 6), ("number", 7)]) (N := N_makes) (sc := defScope s_makes) (by decide +kernel)) (fun _ _ _ _ _ => (pg_tup (by rfl) (pgs_cons (pg_name (i := 6) sc_makes.nd rfl (.inl rfl)) (pgs_cons (pg_name (i := 7) sc_makes.nd rfl (.inl rfl)) pgs_nil)))) (fun _ _ _ _ _ => pts_nil) (fun _ _ _ _ _ => (pe_op (show OpR _ (binaryOp .Add) (rCatB K) from op_catB) (pe_ix (show IxR _ (rIxT K) from ix_tup) (pv 2) (pv 7) (fun _ _ => rfl)) (pe_callO O_mark (hr.mono (by omega)) (by rfl) (pa_cons (pv 5) (pa_cons (pv 6) pa_nil)))))) pa_nil)))
      (pss_cons (ps_set (i := 9) sc_makes.nd rfl (.inl rfl) (pe_callO O_left_of (hr.mono (by omega)) (by rfl) (pa_cons (pv 0) (pa_cons (pe_callO O_room_of (hr.mono (by omega)) (by rfl) (pa_cons (pv 0) (pa_cons (pe_op op_add (pv 1) (pv 5)) (pa_cons (pv 8) pa_nil)))) (pa_cons (pe_op op_catB (pv 3) (pe_op op_repZ (pe_tup (pa_cons pe_int pa_nil)) (pv 5))) pa_nil)))))
      (pss_cons (ps_if (pt_not (pt_val (pe_callO O_is_noughts (hr.mono (by omega)) (by rfl) (pa_cons (pe_slice sl_tupB (pv 9) po_none (po_some (pv 1))) pa_nil))))
        (pss_one (ps_ret pe_non))
        pss_nil)
      (pss_cons (ps_set (i := 10) sc_makes.nd rfl (.inl rfl) (pe_op op_rep (pe_lst (pa_cons pe_int pa_nil)) (pe_callB call_len_seq (by rfl) T.b_len (by decide +kernel) (pa_cons (pv 2) pa_nil))))
      (pss_cons (ps_for PassesOwn.never (by rfl) (RZ.pi_zipA (by rfl) T.b_zip (pa_cons (pv 4) (pa_cons (pe_slice sl_tupB (pv 9) (po_some (pv 1)) po_none) pa_nil))) (pg_tup (by rfl) (pgs_cons (pg_name (i := 7) sc_makes.nd rfl (.inl rfl)) (pgs_cons (pg_name (i := 11) sc_makes.nd rfl (.inl rfl)) pgs_nil)))
        (pss_one (ps_asg (pe_op op_mod (pe_un un_neg (pv 11)) (pv 0)) (pg_sub (pv 10) (pv 7) set_list))))
      (pss_one (ps_ret (pe_callTy call_tuple_of (by rfl) T.b_tuple (by decide +kernel) (pa_cons (pv 10) pa_nil)))))))))))), ?_⟩
    obtain ⟨mf1, mf2⟩ := makesI hF ok okr
    have lenk : (needR p n rs).length = (someR p n rs).length := needR_len _ _ _
    have sz : (someR p n rs).length ≤ n := by
      have h1 := (some_facts hF ok).2.1
      have h3 := plainR_lenle hF ok
      omega
    have okS := someR_ok (p := p) (n := n) ok
    have okM := markedR_ok h2 okS
    have hSk : ∀ i, i < (someR p n rs).length → ∃ k, (needR p n rs)[i]? = some k ∧ k < rs.length ∧ (someR p n rs).getD i [] = rs.getD k [] := fun i hi => by
      have g : (needR p n rs)[i]? = some (needR p n rs)[i] := List.getElem?_eq_getElem (by omega)
      refine ⟨_, g, needR_lt (List.getElem_mem _), ?_⟩
      unfold someR
      rw [List.getD_eq_getElem?_getD, List.getElem?_map, g]
      rfl
    refine ⟨.int p, rfl, .int n, rfl, .ref a, rfl, a, ws, rs, p, n, rfl, hA, hR, lrs, ok, hF, hp, by omega, fun H1 l1 s1 e1 => ?_⟩
    generalize hks : needR p n rs = ks at *
    generalize hS : someR p n rs = S at *
    have kb : ∀ k ∈ ks, k < rs.length := fun k hk => by
      rw [← hks] at hk
      exact needR_lt hk
    have l1T : SqT K H1 l1 (numsV ks) := .inl (.inl e1)
    have lnum : (numsV ks).length = S.length := by rw [numsV, List.length_map, lenk]
    refine ⟨.ref l1, rfl, l1, _, rfl, .inr l1T, ?_⟩
    rw [lnum]
    refine ⟨.ref l1, rfl, l1, _, rfl, l1T, fun D nD => ?_⟩
    refine lc_it (walk_enumT (K := K) (a := l1) (xs := numsV ks)) (fun k H' => Same H1 H' ∧ ∃ vs' : List V, H' D = some (.lst vs') ∧ vs'.length = k ∧ DpAll K H' vs' (((markedR S).take k).map rowD)) ⟨same_upd nD, [], upd_same, rfl, by rw [List.take_zero]; exact .nil⟩ (fun k H' _ hP => Same.tup hP.1 l1T) (fun k x H2 H3 hk hP hY => ?_) (fun H' hP => ?_)
    · obtain ⟨sm, vs', eD, lv, dv⟩ := hP
      obtain ⟨Ta, x1, x2, rfl, nT, rfl, g1, g2⟩ := hY
      rw [lnum] at hk
      have g1 : x1 = V.int (k : Nat) := (Option.some.inj g1).symm
      obtain ⟨kk, gk, hkk, eS⟩ := hSk k hk
      have g2 : (numsV ks)[k]? = some x2 := g2
      rw [numsV, List.getElem?_map, gk] at g2
      have g2 : x2 = V.int (kk : Int) := (Option.some.inj g2).symm
      subst g1 g2
      have sT : Same H2 (upd H2 Ta (.tup [.int (k : Nat), .int (kk : Int)])) := same_upd nT
      generalize hT : upd H2 Ta (.tup [.int (k : Nat), .int (kk : Int)]) = HT at sT
      have eT : HT Ta = some (.tup [.int (k : Nat), .int (kk : Int)]) := by rw [← hT]; exact upd_same
      refine ⟨Ta, [.int (k : Nat), .int (kk : Int)], rfl, .inl (.inl eT), rfl, .int (k : Nat), [.int (kk : Int)], rfl, .int (kk : Int), [], rfl, rfl, rfl, ?_⟩
      have gw : ws[kk]? = some ws[kk] := List.getElem?_eq_getElem (by omega)
      have t1T := (s1.trans sm).trans sT
      obtain ⟨c, rc, ec, gr, mr, hc⟩ := dpAll_row (dpAll_same t1T _ _ hR) gw
      rw [ec] at gw
      have okc := ok rc mr
      have erc : S.getD k [] = rc := by rw [eS, List.getD_eq_getElem?_getD, gr]; rfl
      refine ⟨.ref a, rfl, .int kk, rfl, a, _, _, _, rfl, rfl, Same.tup t1T hA, at_of (j := kk) rfl gw, .int S.length, rfl, .int k, rfl, S.length, k, rfl, hk, by omega, fun H4 l4 s4 h4 => ?_⟩
      refine ⟨c, l4, _, _, rfl, rfl, Same.tup s4 hc, h4, sz1000 (by rw [List.length_map, List.length_map, okc.1, markR_len hk]; omega), fun l5 H5 s5 h5 => ?_⟩
      rw [← List.map_append] at h5
      have s25 : Same H2 H5 := (sT.trans s4).trans s5
      have eD5 := s25 _ _ eD
      have tk : Tk H5 (upd H5 D (.lst (vs' ++ [.ref l5]))) := Tk.mut (Tk.refl H5) eD5
      refine ⟨vs', eD5, small1000 (by omega), same_mut (sm.trans s25) nD, vs' ++ [.ref l5], upd_same, by rw [List.length_append, lv]; rfl, ?_⟩
      have gm : (markedR S)[k]? = some (rc ++ markR S.length k) := by
        unfold markedR
        rw [List.getElem?_map, List.getElem?_eq_getElem (by rw [List.length_range]; exact hk), List.getElem_range]
        show some (S.getD k [] ++ markR S.length k) = _
        rw [erc]
      rw [List.take_add_one, gm, List.map_append]
      exact dpAll_append (dpAll_tk tk _ _ (noL_rows _) (dpAll_same s25 _ _ dv)) (.cons (row_dp (tk K _ _ h5)) .nil)
    · obtain ⟨sm, vs', eD, lv, dv⟩ := hP
      rw [lnum] at dv lv
      have lM : (markedR S).length = S.length := by unfold markedR; rw [List.length_map, List.length_range]
      rw [List.take_of_length_le (by omega)] at dv
      refine ⟨D, vs', rfl, .inl ⟨.inl (.inl eD), fun l2 nl2 => ?_⟩⟩
      generalize h3 : upd H' l2 _ = H3
      obtain ⟨s3, e3⟩ := new_of h3 nl2
      have t3 := (s1.trans sm).trans s3
      refine ⟨.int p, rfl, .int p, rfl, .int n, rfl, .int S.length, rfl, _, _, rfl, rfl, .ref l2, rfl, l2, markedR S, p, n + S.length, by rw [Int.natCast_add]; rfl, ⟨vs', .inl (.inl e3), dpAll_same s3 _ _ dv⟩, okM, hF, by omega, by omega, hp, fun H4 l4 s4 h4 => ?_⟩
      refine ⟨.ref b, rfl, sz1000 (by decide : (1 : Nat) ≤ 1000), fun u5 nu5 => ?_⟩
      generalize h5 : upd H4 u5 _ = H5
      obtain ⟨s5, e5⟩ := new_of h5 nu5
      refine ⟨.int S.length, rfl, u5, S.length, _, rfl, rfl, .inl (.inl e5), by simp, by omega, by omega, by simp, fun l6 H6 s6 h6 => ?_⟩
      rw [show ((S.length : Int)).toNat = S.length from rfl, rep_int] at h6
      have t6 := (t3.trans s4).trans (s5.trans s6)
      refine ⟨b, l6, _, _, rfl, rfl, Same.tup t6 hB, h6, sz1000 (by rw [List.length_map, List.length_map, okr'.1, List.length_replicate]; omega), fun l7 H7 s7 h7 => ?_⟩
      rw [← List.map_append] at h7
      have t7 := t6.trans s7
      have pfM := PFR.of_plain hF okM
      have okx : RowsOk p (n + S.length) [r ++ List.replicate S.length 0] := rowsOk_one ⟨by rw [List.length_append, okr'.1, List.length_replicate], fun x hx => by
        rcases List.mem_append.mp hx with hx | hx
        · exact okr'.2 x hx
        · rw [List.eq_of_mem_replicate hx]
          omega⟩
      refine ⟨l7, l4, plainR p (n + S.length) (markedR S), r ++ List.replicate S.length 0, p, n + S.length, rfl, RowsAt.same ((s5.trans s6).trans s7) h4, h7, pfM.1, pfM.fp_lt hF, okx, by omega, by omega, by omega, fun H8 l8 s8 h8 => ?_⟩
      have okt := pfM.left_ok hF okx _ List.mem_cons_self
      have h8 : SqT K H8 l8 ((restR p n S r).map V.int) := h8
      have okt : (restR p n S r).length = n + S.length ∧ ∀ x ∈ restR p n S r, 0 ≤ x ∧ x < p := okt
      generalize restR p n S r = t at h8 okt mf1 mf2
      have t8 := t7.trans s8
      refine ⟨.ref l8, rfl, .int n, rfl, n, rfl, l8, _, rfl, h8, fun l9 H9 s9 h9 => ?_⟩
      rw [cut_upto (by omega), show ((n : Int)).toNat = n from rfl, ← List.map_take] at h9
      refine ⟨l9, t.take n, rfl, h9, by rw [List.length_take]; omega, fun H10 s10 => ?_⟩
      have t10 := (t8.trans s9).trans s10
      have eall : ((t.take n).all fun x => decide (x = 0)) = hasR p n rs r := by
        cases hh : hasR p n rs r with
        | true => exact List.all_eq_true.mpr fun x hx => decide_eq_true (mf1.mpr hh x hx)
        | false =>
          rw [Bool.eq_false_iff]
          intro z
          have := mf1.mp fun x hx => of_decide_eq_true (List.all_eq_true.mp z x hx)
          rw [hh] at this
          cases this
      rw [eall]
      cases hh : hasR p n rs r with
      | false => exact ⟨false, rfl, iteT (q1 hh H10 t10)⟩
      | true =>
        refine ⟨true, rfl, iteF ?_⟩
        have emade := mf2 (mf1.mpr hh)
        refine ⟨sz1000 (by decide : (1 : Nat) ≤ 1000), fun u11 nu11 => ?_⟩
        generalize h11 : upd H10 u11 _ = H11
        obtain ⟨s11, e11⟩ := new_of h11 nu11
        have t11 := t10.trans s11
        refine ⟨.ref a, rfl, a, _, rfl, .inr (Same.tup t11 hA), u11, _, _, rfl, rfl, e11, by omega, by omega, sz1000 (by show 1 * ((ws.length : Int)).toNat ≤ 1000; omega), fun o no => ?_⟩
        rw [show ((ws.length : Int)).toNat = rs.length by omega, rep_int]
        generalize h12 : upd H11 o _ = H12
        obtain ⟨s12, e12⟩ := new_of h12 no
        have noH : H o = none := t11.free no
        have t12 := t11.trans s12
        have l1_12 : SqT K H12 l1 (numsV ks) := Same.tup ((((sm.trans s3).trans s4).trans ((s5.trans s6).trans s7)).trans (((s8.trans s9).trans s10).trans (s11.trans s12))) l1T
        have l8_12 := Same.tup ((s9.trans s10).trans (s11.trans s12)) h8
        refine ⟨.ref l1, rfl, .ref l8, rfl, .int n, rfl, n, rfl, l8, _, rfl, l8_12, fun l13 H13 s13 h13 => ?_⟩
        rw [cut_from (by omega) (by rw [List.length_map]; omega), show ((n : Int)).toNat = n from rfl, ← List.map_drop] at h13
        have l1_13 := Same.tup s13 l1_12
        have ldrop : (t.drop n).length = S.length := by rw [List.length_drop]; omega
        have lzip : (ks.zip (t.drop n)).length = S.length := by rw [List.length_zip]; omega
        have s1213 := s12.trans s13
        have t13 := t12.trans s13
        refine ⟨l1, l13, _, _, rfl, .inr ⟨l1_13, h13, for_it (walk_zipT (K := K) (a := l1) (b := l13) (xs := numsV ks) (ys := (t.drop n).map V.int) rfl) (fun i σ H' => Tk H13 H' ∧ Same H H' ∧ H' o = some (.lst ((factorsR p rs.length ((ks.zip (t.drop n)).take i)).map V.int)) ∧ ∃ y6 y7 y11 : Option V, σ = [some (.int p), some (.int (n : Int)), some (.ref a), some (.ref b), some (.ref l1), some (.int (S.length : Int)), y6, y7, some (.ref l2), some (.ref l8), some (.ref o), y11]) ⟨Tk.refl _, t13, s13 _ _ e12, none, none, none, rfl⟩ (fun i σ H' _ hW => ⟨hW.1 K _ _ l1_13, hW.1 K _ _ h13⟩) (fun i x σ H14 H15 hi hW hY => ?_) (fun σ H' hW => ?_)⟩⟩
        · obtain ⟨tk14, sm14, eo, y6, y7, y11, rfl⟩ := hW
          obtain ⟨Ta, x1, x2, rfl, nT, rfl, g1, g2⟩ := hY
          have hi' : i < S.length := by
            rw [lnum, List.length_map, ldrop, Nat.min_self] at hi
            exact hi
          have gk : ks[i]? = some ks[i] := List.getElem?_eq_getElem (by omega)
          have gt : (t.drop n)[i]? = some (t.drop n)[i] := List.getElem?_eq_getElem (by omega)
          have g1 : (numsV ks)[i]? = some x1 := g1
          have g2 : ((t.drop n).map V.int)[i]? = some x2 := g2
          rw [numsV, List.getElem?_map, gk] at g1
          rw [List.getElem?_map, gt] at g2
          have g1 : x1 = V.int (ks[i] : Int) := (Option.some.inj g1).symm
          have g2 : x2 = V.int (t.drop n)[i] := (Option.some.inj g2).symm
          subst g1 g2
          have hkb := kb ks[i] (List.getElem_mem _)
          have gz : (ks.zip (t.drop n))[i]? = some (ks[i], (t.drop n)[i]) := by
            rw [List.getElem?_zip_eq_some]
            exact ⟨gk, gt⟩
          have sT : Same H14 (upd H14 Ta (.tup [.int (ks[i] : Int), .int (t.drop n)[i]])) := same_upd nT
          generalize hT : upd H14 Ta (.tup [.int (ks[i] : Int), .int (t.drop n)[i]]) = HT at sT
          have eT : HT Ta = some (.tup [.int (ks[i] : Int), .int (t.drop n)[i]]) := by rw [← hT]; exact upd_same
          refine ⟨Ta, [.int (ks[i] : Int), .int (t.drop n)[i]], rfl, .inl (.inl eT), rfl, .int (ks[i] : Int), [.int (t.drop n)[i]], rfl, .int (t.drop n)[i], [], rfl, rfl, ?_⟩
          have eoT := sT _ _ eo
          refine ⟨.int (t.drop n)[i], rfl, _, rfl, .int p, rfl, _, p, rfl, rfl, by omega, ?_⟩
          refine ⟨.ref o, rfl, .int (ks[i] : Int), rfl, o, _, ks[i], ks[i], rfl, rfl, eoT, ?_, (tk14.trans (Tk.of sT)).mut eoT, same_mut (sm14.trans sT) noH, ?_, _, _, _, rfl⟩
          · rw [List.length_map, factorsR_len]
            exact ix_nat (by omega) (by omega)
          · rw [upd_same, ← List.map_set, factorsR_take gz]
        · obtain ⟨tk14, sm14, eo, y6, y7, y11, rfl⟩ := hW
          rw [lnum, List.length_map, ldrop, Nat.min_self, List.take_of_length_le (by omega)] at eo
          refine ⟨.ref o, rfl, o, _, rfl, .inl ⟨.inl (.inl eo), fun l15 nl15 => ?_⟩⟩
          generalize h16 : upd H' l15 _ = H16
          obtain ⟨s16, e16⟩ := new_of h16 nl15
          exact q2 hh H16 l15 _ (sm14.trans s16) e16 (factorsR_len _ _ _) (factorsR_ok (by omega) _ _) emade
def makesD (p : Int) (n : Nat) (rs : List (List Int)) (r : List Int) (d : PyData) : Bool := isRowD p rs.length d && decide (madeR p (List.replicate n 0) (rs.zip (intsOf d)) = r)
def sp_makes_hold (K : PySem.W.Frag) : Sp := fun vs H Q _ => ∃ (a b : Addr) (rs : List (List Int)) (r : List Int) (p : Int) (n : Nat) (v : V) (e : PyData), vs = [.int p, .int (n : Int), .ref a, .ref b, v] ∧ RowsAt K H a rs ∧ SqT K H b (r.map V.int) ∧ RowsOk p n rs ∧ RowsOk p n [r] ∧ rs.length ≤ 1000 ∧ Rep K H NB v e ∧ lenOk e ∧ 2 ≤ p ∧ 1 ≤ n ∧ n ≤ 100 ∧ p ≤ 1000 ∧
  ∀ H', Same H H' → Q (.bl (makesD p n rs r e)) H'
theorem ok_makes_hold (T : Top K mg) : Ok P w K mg base 4 "makes_hold" ["p", "n", "rows", "row", "thing"] (sp_makes_hold K) := by
  have O_is_row := ok_is_row (P := P) (w := w) (base := base) T
  have O_made_of := ok_made_of (P := P) (w := w) (base := base) T
  refine T.d_makes_hold.ok sc_makes_hold (fun vs H Q E h => ?_) (fun f cdv A outer s H vs Q E hr h => ?_)
  · obtain ⟨a, b, rs, r, p, n, v, e, rfl, _⟩ := h
    rfl
  · obtain ⟨a, b, rs, r, p, n, v, e, rfl, ⟨ws, hA, hR⟩, hB, ok, okr, lrs, hv, hl, h2, n1, hn, hp, q⟩ := h
    have lw := rows_len hR
    refine ⟨_, ((pss_one (ps_ret (pe_and (pe_callO O_is_row (hr.mono (by omega)) (by rfl) (pa_cons (pv 0) (pa_cons (pe_callB call_len_seq (by rfl) T.b_len (by decide +kernel) (pa_cons (pv 2) pa_nil)) (pa_cons (pv 4) pa_nil)))) (pe_one (pe_cmpR (op_eqD hr.units) (pe_callO O_made_of (hr.mono (by omega)) (by rfl) (pa_cons (pv 0) (pa_cons (pv 1) (pa_cons (pv 2) (pa_cons (pv 4) pa_nil))))) (pv 3) (nomark _))))))), ?_⟩
    refine ⟨.int p, rfl, .ref a, rfl, a, _, rfl, .inr hA, v, rfl, p, _, v, e, rfl, hv, hl, fun H1 s1 => ?_⟩
    rw [lw]
    by_cases hrow : isRowD p rs.length e = true
    · obtain ⟨e1, l1, o1⟩ := row_of hrow
      have v1 := rep_stays (Stays.of s1) _ _ hv
      rw [e1] at v1
      obtain ⟨c, rfl, hc⟩ := rep_row v1
      have q' : ∀ H', Same H H' → Q (.bl (decide (madeR p (List.replicate n 0) (rs.zip (intsOf e)) = r))) H' := fun H' s' => by
        have := q H' s'
        rw [show makesD p n rs r e = (isRowD p rs.length e && decide (madeR p (List.replicate n 0) (rs.zip (intsOf e)) = r)) from rfl, hrow, Bool.true_and] at this
        exact this
      rw [hrow]
      generalize intsOf e = fs at *
      refine ⟨true, rfl, iteT ⟨.int p, rfl, .int n, rfl, .ref a, rfl, .ref c, rfl, a, c, ws, rs, fs, p, n, rfl, Same.tup s1 hA, dpAll_same s1 _ _ hR, hc, by omega, by omega, by omega, by omega, fun x hx => by rw [(ok x hx).1], fun x hx => by have := o1 x hx; omega, fun H2 l2 s2 h2' => ?_⟩⟩
      rw [show ((n : Int)).toNat = n from rfl] at h2'
      refine ⟨.ref b, rfl, rowD _, rowD r, row_dp h2', row_dp (Same.tup (s1.trans s2) hB), shaped_row _, shaped_row _, ?_⟩
      rw [eqv_row_dec]
      exact q' H2 (s1.trans s2)
    · have hf : isRowD p rs.length e = false := by simpa using hrow
      rw [hf]
      have := q H1 s1
      rw [show makesD p n rs r e = (isRowD p rs.length e && decide (madeR p (List.replicate n 0) (rs.zip (intsOf e)) = r)) from rfl, hf, Bool.false_and] at this
      exact ⟨false, rfl, iteF this⟩
theorem wide_m {m : Int} (h0 : 0 < m) (h1 : m < 100000000000000000000) : m.natAbs.log2 < 9000 := by
  have e : (2 : Nat) ^ 67 = 147573952589676412928 := by decide
  have := PySem.Flt.log2_lt_of (k := 67) (n := m.natAbs) (by decide) (by rw [e]; omega)
  omega
def sp_draw : Sp := fun vs H Q _ => ∃ (d c : Addr) (t m : Int), vs = [.ref d, .int m] ∧ Deck H d c t ∧ t < 1000000 ∧ 0 < m ∧ m < 100000000000000000000 ∧ ∀ H' r, Kept d c H H' → Deck H' d c (t + 1) → 0 ≤ r → r < m → Q (.int r) H'
theorem ok__law_draw (T : Top K mg) : Ok P w K mg base 1 "_law_draw" ["_law_deck_here", "_law_many"] sp_draw := by
  refine T.d__law_draw.ok sc__law_draw (fun vs H Q E h => ?_) (fun f cdv A outer s H vs Q E hr h => ?_)
  · obtain ⟨d, c, t, m, rfl, _⟩ := h
    rfl
  · obtain ⟨d, c, t, m, rfl, ⟨hd, ⟨cells, hc, hp, hl⟩, hne, ht0⟩, ht, hm0, hm1, q⟩ := h
    refine ⟨_, ((pss_cons (ps_asg (pe_op op_add (pe_ix ix_list (pv 0) pe_int (fun _ _ => rfl)) pe_int) (pg_sub (pv 0) pe_int set_list))
      (pss_cons (ps_set (i := 2) sc__law_draw.nd rfl (.inl rfl) pe_int)
      (pss_cons (ps_set (i := 3) sc__law_draw.nd rfl (.inl rfl) (pe_un un_neg pe_int))
      (pss_cons (ps_if (pt_cmpR op_gt (pe_callB call_len_seq (by rfl) T.b_len (by decide +kernel) (pa_cons (pe_ix ix_list (pv 0) pe_int (fun _ _ => rfl)) pa_nil)) pe_int (nomark _))
        (pss_cons (ps_set (i := 3) sc__law_draw.nd rfl (.inl rfl) (pe_op op_mod (pe_ix ix_list (pv 0) pe_int (fun _ _ => rfl)) (pe_callB call_len_seq (by rfl) T.b_len (by decide +kernel) (pa_cons (pe_ix ix_list (pv 0) pe_int (fun _ _ => rfl)) pa_nil))))
        (pss_one (ps_set (i := 2) sc__law_draw.nd rfl (.inl rfl) (pe_ix ix_list (pe_ix ix_list (pv 0) pe_int (fun _ _ => rfl)) (pv 3) (fun _ _ => rfl)))))
        pss_nil)
      (pss_cons (ps_if (pt_cmpR op_ge (pv 2) (pe_op op_pow pe_int pe_int) (nomark _))
        (pss_cons (ps_asg (pe_op op_fdivW (pv 2) (pv 1)) (pg_sub (pe_ix ix_list (pv 0) pe_int (fun _ _ => rfl)) (pv 3) set_list))
        (pss_one (ps_ret (pe_op op_mod (pv 2) (pv 1)))))
        pss_nil)
      (pss_one (ps_ret (pe_op op_mod (pe_op op_mod (pe_op op_pow (pe_op op_add (pe_op op_add (pe_op op_mod (pv 2) pe_int) (pe_op op_mul pe_int (pe_ix ix_list (pv 0) pe_int (fun _ _ => rfl)))) pe_int) pe_int) pe_int) (pv 1)))))))))), ?_⟩
    refine ⟨.ref d, rfl, d, _, 1, .int t, rfl, rfl, .inl (.inl hd), rfl, t, 1, rfl, rfl, .ref d, rfl, d, _, 1, 1, rfl, rfl, hd, rfl, ?_⟩
    have hd1 : (upd H d (.lst ([V.ref c, .int t].set 1 (.int (t + 1))))) d = some (.lst [.ref c, .int (t + 1)]) := upd_same
    have hc1 : (upd H d (.lst ([V.ref c, .int t].set 1 (.int (t + 1))))) c = some (.lst (cells.map V.int)) := by
      rw [upd_ne hne]; exact hc
    have k1 : Kept d c H (upd H d (.lst ([V.ref c, .int t].set 1 (.int (t + 1))))) := fun b o h n _ => by
      rw [upd_ne n]; exact h
    generalize upd H d (.lst ([V.ref c, .int t].set 1 (.int (t + 1)))) = H1 at hd1 hc1 k1 ⊢
    have D1 : Deck H1 d c (t + 1) := ⟨hd1, ⟨cells, hc1, hp, hl⟩, hne, by omega⟩
    refine ⟨1, rfl, .ref d, rfl, d, _, 0, .ref c, rfl, rfl, .inl (.inl hd1), rfl, c, _, rfl, .inl (.inl (.inl hc1)), _, 0, rfl, rfl, _, rfl, ite2 (fun e => ?_) (fun e => ?_)⟩
    · have e0 : (0 : Int) < ((cells.map V.int).length : Int) := of_decide_eq_true e
      rw [List.length_map] at e0
      have z0 : 0 ≤ (t + 1) % (cells.length : Int) := Int.emod_nonneg _ (by omega)
      have z1 : (t + 1) % (cells.length : Int) < (cells.length : Int) := Int.emod_lt_of_pos _ e0
      obtain ⟨x, hx, hx2, hx3⟩ := at_int z0 z1
      have x0 := hp x hx
      refine ⟨.ref d, rfl, d, _, 1, .int (t + 1), rfl, rfl, .inl (.inl hd1), rfl, .ref d, rfl, d, _, 0, .ref c, rfl, rfl, .inl (.inl hd1), rfl, c, _, rfl, .inl (.inl (.inl hc1)), t + 1, (cells.length : Int), rfl, by rw [List.length_map], e0, ?_⟩
      refine ⟨.ref d, rfl, d, _, 0, .ref c, rfl, rfl, .inl (.inl hd1), rfl, .int ((t + 1) % (cells.length : Int)), rfl, c, _, _, .int x, rfl, rfl, .inl (.inl hc1), hx3, ?_⟩
      refine ⟨.int x, rfl, 10, 18, rfl, rfl, ⟨by decide, by decide, by decide⟩, _, _, rfl, rfl, _, rfl, ite2 (fun e => ?_) (fun e => ?_)⟩
      · refine ⟨.int x, rfl, .int m, rfl, x, m, rfl, rfl, ⟨hm0, wide_m hm0 hm1⟩, .ref d, rfl, d, _, 0, .ref c, rfl, rfl, .inl (.inl hd1), rfl, .int ((t + 1) % (cells.length : Int)), rfl, c, _, _, _, rfl, rfl, hc1, ix_nat z0 (by rw [List.length_map]; exact z1), ?_⟩
        refine ⟨.int x, rfl, .int m, rfl, x, m, rfl, rfl, hm0, q _ _ (k1.trans fun b o h _ n => ?_) ⟨?_, ⟨cells.set ((t + 1) % (cells.length : Int)).toNat (x / m), ?_, fun y hy => ?_, ?_⟩, hne, by omega⟩ (Int.emod_nonneg _ (by omega)) (Int.emod_lt_of_pos _ hm0)⟩
        · rw [upd_ne n]; exact h
        · rw [upd_ne (Ne.symm hne)]; exact hd1
        · rw [upd_same, List.map_set]
        · rcases List.mem_or_eq_of_mem_set hy with h | h
          · exact hp y h
          · rw [h]; exact Int.ediv_nonneg x0 (by omega)
        · rw [List.length_set]; exact hl
      · refine ⟨.int x, rfl, x, 2147483587, rfl, rfl, (show (0 : Int) < 2147483587 by decide), .ref d, rfl, d, _, 1, .int (t + 1), rfl, rfl, .inl (.inl hd1), rfl, 7919, t + 1, rfl, rfl, .inl ⟨by decide, by decide⟩, _, _, rfl, rfl, _, 1, rfl, rfl, _, 5, rfl, rfl, ⟨by decide, by decide, ?_⟩, _, 2147483647, rfl, rfl, (show (0 : Int) < 2147483647 by decide), .int m, rfl, _, m, rfl, rfl, hm0, q _ _ k1 D1 (Int.emod_nonneg _ (by omega)) (Int.emod_lt_of_pos _ hm0)⟩
        have := Int.emod_lt_of_pos x (show (0 : Int) < 2147483587 by decide)
        have := Int.emod_nonneg x (show (2147483587 : Int) ≠ 0 by decide)
        omega
    · refine ⟨.int 0, rfl, 10, 18, rfl, rfl, ⟨by decide, by decide, by decide⟩, _, _, rfl, rfl, _, rfl, ite2 (fun e => absurd (of_decide_eq_true e) (by decide)) (fun e => ?_)⟩
      refine ⟨.int 0, rfl, 0, 2147483587, rfl, rfl, (show (0 : Int) < 2147483587 by decide), .ref d, rfl, d, _, 1, .int (t + 1), rfl, rfl, .inl (.inl hd1), rfl, 7919, t + 1, rfl, rfl, .inl ⟨by decide, by decide⟩, _, _, rfl, rfl, _, 1, rfl, rfl, _, 5, rfl, rfl, ⟨by decide, by decide, ?_⟩, _, 2147483647, rfl, rfl, (show (0 : Int) < 2147483647 by decide), .int m, rfl, _, m, rfl, rfl, hm0, q _ _ k1 D1 (Int.emod_nonneg _ (by omega)) (Int.emod_lt_of_pos _ hm0)⟩
      omega
end
end OC
set_option Elab.async false
set_option linter.all false
set_option maxRecDepth 100000
set_option maxHeartbeats 4000000
namespace OC
open PySem PySem.Spec PyProof.Rows L2
section
variable {P : Program} {w : World} {K : PySem.W.Frag} {mg : Str → Option Value} {base : Heap}
def sp_lleft (K : PySem.W.Frag) : Sp := fun vs H Q _ => ∃ (a b : Addr) (ws : List V) (room : List (List Int)) (r : List Int) (p : Int) (n : Nat), vs = [.int p, .ref a, .ref b] ∧ (SqL K H a ws ∨ SqT K H a ws) ∧ DpAll K H ws (room.map rowD) ∧ SqT K H b (r.map V.int) ∧ RowsOk p n room ∧ (∀ c ∈ room, fpR c < n) ∧ RowsOk p n [r] ∧ 0 < p ∧ p ≤ 1000 ∧ n ≤ 100 ∧ room.length ≤ 100 ∧
  ∀ H' l, Same H H' → H' l = some (.tup ((leftR p room r).map V.int)) → Q (.ref l) H'
theorem sql_same3 {K : PySem.W.Frag} {H H' : Hp} {a : Addr} {xs : List V} (e : Same H H') (h : SqL K H a xs) : SqL K H' a xs := by
  rcases h with (h | ⟨o, h⟩) | h
  · exact .inl (.inl (e _ _ h))
  · exact .inl (.inr ⟨o, e _ _ h⟩)
  · exact .inr h
theorem left_ok {p : Int} (hp : 0 < p) {n : Nat} : ∀ (room : List (List Int)) (r : List Int), RowsOk p n room → RowsOk p n [r] → RowsOk p n [leftR p room r]
  | [], _, _, h => h
  | c :: room, r, h1, h2 => left_ok hp room (lessR p r c (fpR c)) (fun x hx => h1 x (List.mem_cons_of_mem _ hx)) (rowsOk_one (less_row hp (h2 r List.mem_cons_self).1 (h1 c List.mem_cons_self).1 _))
theorem less_at {p : Int} {x y : List Int} {j k n : Nat} (hx : x.length = n) (hy : y.length = n) (hk : k < n) : (lessR p x y j).take (k + 1) = (lessR p x y j).take k ++ [(x.getD k 0 - x.getD j 0 * y.getD k 0) % p] := by
  have g : (lessR p x y j)[k]? = some ((x.getD k 0 - x.getD j 0 * y.getD k 0) % p) := by
    unfold lessR
    rw [List.getElem?_zipWith, List.getElem?_eq_getElem (l := x) (by omega), List.getElem?_eq_getElem (l := y) (by omega), gd_lt (r := x) (i := k) (by omega), gd_lt (r := y) (i := k) (by omega)]
  rw [List.take_add_one, g]
  rfl
theorem ok__law_left (T : Top K mg) : Ok P w K mg base 1 "_law_left" ["_law_p", "_law_room_here", "_law_row_here"] (sp_lleft K) := by
  refine T.d__law_left.ok sc__law_left (fun vs H Q E h => ?_) (fun f cdv A outer s H vs Q E hr h => ?_)
  · obtain ⟨a, b, ws, room, r, p, n, rfl, _⟩ := h
    rfl
  · obtain ⟨a, b, ws, room, r, p, n, rfl, hA, hR, hB, ok, fp, okr, hp, hp2, hn, lr, q⟩ := h
    have okr' := okr r List.mem_cons_self
    have lw := rows_len hR
    refine ⟨_, ((pss_cons (ps_set (i := 3) sc__law_left.nd rfl (.inr rfl) (pe_callTy call_list_of (by rfl) T.b_list (by decide +kernel) (pa_cons (pv 2) pa_nil)))
      (pss_cons (ps_for PassesOwn.never (by rfl) (pi_seqv 1 (pv 1)) (pg_name (i := 4) sc__law_left.nd rfl (.inr rfl))
        (pss_cons (ps_set (i := 6) sc__law_left.nd rfl (.inl rfl) (pe_ix ix_list (pe_lc (own := [("_law_k", 5)]) (g := gName 5) (by rfl) sc__law_left.nd (pi_range1 (by rfl) T.b_range (pa_cons (pe_callB call_len_seq (by rfl) T.b_len (by decide +kernel) (pa_cons (pv 4) pa_nil)) pa_nil)) (blkOk_by (own := [("_law_k", 5)]) (N := N__law_left) (sc := defScope s__law_left) (by decide +kernel)) (fun _ _ _ _ _ => (pg_name (i := 5) sc__law_left.nd rfl (.inl rfl))) (fun _ _ _ _ _ => (pts_one (pt_cmpR op_gt (pe_ix (show IxR _ (rIxT K) from ix_tup) (pv 4) (pv 5) (fun _ _ => rfl)) pe_int (nomark _)))) (fun _ _ _ _ _ => (pv 5))) pe_int (fun _ _ => rfl)))
        (pss_cons (ps_set (i := 7) sc__law_left.nd rfl (.inr rfl) (pe_ix ix_list (pv 3) (pv 6) (fun _ _ => rfl)))
        (pss_one (ps_set (i := 3) sc__law_left.nd rfl (.inr rfl) (pe_lc (own := [("_law_k", 5)]) (g := gName 5) (by rfl) sc__law_left.nd (pi_range1 (by rfl) T.b_range (pa_cons (pe_callB call_len_seq (by rfl) T.b_len (by decide +kernel) (pa_cons (pv 4) pa_nil)) pa_nil)) (blkOk_by (own := [("_law_k", 5)]) (N := N__law_left) (sc := defScope s__law_left) (by decide +kernel)) (fun _ _ _ _ _ => (pg_name (i := 5) sc__law_left.nd rfl (.inl rfl))) (fun _ _ _ _ _ => pts_nil) (fun _ _ _ _ _ => (pe_op op_mod (pe_op op_sub (pe_ix (show IxR _ (rIxL K) from ix_list) (pv 3) (pv 5) (fun _ _ => rfl)) (pe_op op_mul (pv 7) (pe_ix (show IxR _ (rIxT K) from ix_tup) (pv 4) (pv 5) (fun _ _ => rfl)))) (pv 0)))))))))
      (pss_one (ps_ret (pe_callTy call_tuple_of (by rfl) T.b_tuple (by decide +kernel) (pa_cons (pv 3) pa_nil))))))), ?_⟩
    refine ⟨.ref b, rfl, b, _, rfl, .inr hB, fun l0 n0 => ?_⟩
    generalize h1 : upd H l0 _ = H1
    obtain ⟨s1, e1⟩ := new_of h1 n0
    have hq : (∀ H', Same H1 H' → SqL K H' a ws) ∨ (∀ H', Same H1 H' → SqT K H' a ws) := by
      rcases hA with h | h
      · exact .inl fun H' k => sql_same3 (s1.trans k) h
      · exact .inr fun H' k => Same.tup (s1.trans k) h
    refine ⟨a, ws, fun H' => Same H1 H', rfl, Same.refl _, hq, fun J wk => for_it wk (fun i σ H' => Same H1 H' ∧ ∃ (l : Addr) (y4 y5 y6 y7 : Option V), H' l = some (.lst ((leftR p (room.take i) r).map V.int)) ∧ σ = [some (.int p), some (.ref a), some (.ref b), some (.ref l), y4, y5, y6, y7]) ⟨Same.refl _, l0, none, none, none, none, e1, rfl⟩ (fun i σ H' _ hW => hW.1) (fun i x σ H2' H2 hi hW hY => ?_) (fun σ H2 hW => ?_)⟩
    · obtain ⟨rfl, hx⟩ := hY
      obtain ⟨s2, l, y4, y5, y6, y7, el, rfl⟩ := hW
      obtain ⟨c, rr, rfl, gr, mr, hc⟩ := dpAll_row (dpAll_same (s1.trans s2) _ _ hR) hx
      have okc := ok rr mr
      have fc := fp rr mr
      have okl := left_ok hp (room.take i) r (fun x hx => ok x (List.mem_of_mem_take hx)) okr _ List.mem_cons_self
      have lt := left_take (p := p) (r := r) gr
      generalize leftR p (room.take i) r = cur at el okl lt
      refine ⟨.ref c, rfl, c, _, rfl, .inr hc, _, rfl, by omega, by rw [List.length_map]; omega, fun D nD => ?_⟩
      rw [List.length_map, show ((rr.length : Int)).toNat = rr.length from rfl]
      refine lc_range (lo := 0) (n := rr.length) (fun k H3 => Same H2 H3 ∧ H3 D = some (.lst ((posR rr k).map fun (i : Nat) => V.int (i : Int)))) ⟨same_upd nD, upd_same⟩ (fun k H3 hk hP => ?_) (fun H3 hP => ?_)
      · obtain ⟨s3, eD⟩ := hP
        refine ⟨rfl, .ref c, rfl, .int (0 + k), rfl, c, _, _, _, rfl, rfl, Same.tup s3 hc, by rw [show (0 : Int) + (k : Int) = (k : Int) by omega]; exact at_row hk, _, 0, rfl, rfl, _, rfl, ?_⟩
        have lp : (posR rr k).length ≤ k := by
          have := List.length_filter_le (fun i => decide (rr.getD i 0 > 0)) (List.range k)
          rw [List.length_range] at this
          exact this
        by_cases h0 : rr.getD k 0 > 0
        · rw [decide_eq_true h0]
          refine iteT ⟨.int (0 + k), rfl, _, eD, by rw [List.length_map]; exact small1000 (by omega), same_mut s3 nD, ?_⟩
          rw [upd_same, posR_succ, if_pos h0, List.map_append, show (0 : Int) + (k : Int) = (k : Int) by omega]
          rfl
        · rw [decide_eq_false h0]
          refine iteF ⟨s3, ?_⟩
          rw [eD, posR_succ, if_neg h0, List.append_nil]
      · obtain ⟨s3, eD⟩ := hP
        rw [posR_nz okc.2 hp] at eD
        refine ⟨D, _, 0, .int (fpR rr), rfl, rfl, .inl (.inl eD), at_of (j := 0) rfl (by rw [List.getElem?_map, nzs_head (by rw [okc.1]; exact fc)]; rfl), ?_⟩
        have el3 := s3 _ _ el
        have hc3 := Same.tup s3 hc
        refine ⟨.ref l, rfl, .int (fpR rr), rfl, l, _, _, _, rfl, rfl, .inl (.inl el3), at_row (by rw [okl.1]; exact fc), ?_⟩
        refine ⟨.ref c, rfl, c, _, rfl, .inr hc3, _, rfl, by omega, by rw [List.length_map]; omega, fun D2 nD2 => ?_⟩
        rw [List.length_map, show ((rr.length : Int)).toNat = rr.length from rfl]
        refine lc_range (lo := 0) (n := rr.length) (fun k H4 => Same H3 H4 ∧ H4 D2 = some (.lst (((lessR p cur rr (fpR rr)).take k).map V.int))) ⟨same_upd nD2, upd_same⟩ (fun k H4 hk hP => ?_) (fun H4 hP => ?_)
        · obtain ⟨s4, eD2⟩ := hP
          have b1 := getD_lt hp okl.2 k
          have b2 := getD_lt hp okl.2 (fpR rr)
          refine ⟨rfl, .ref l, rfl, .int (0 + k), rfl, l, _, _, _, rfl, rfl, .inl (.inl (s4 _ _ el3)), by rw [show (0 : Int) + (k : Int) = (k : Int) by omega]; exact at_row (by omega), .int (cur.getD (fpR rr) 0), rfl, .ref c, rfl, .int (0 + k), rfl, c, _, _, _, rfl, rfl, Same.tup s4 hc3, by rw [show (0 : Int) + (k : Int) = (k : Int) by omega]; exact at_row hk, _, _, rfl, rfl, .inl ⟨by omega, by omega⟩, _, _, rfl, rfl, .int p, rfl, _, p, rfl, rfl, hp, _, eD2, ?_, same_mut s4 nD2, ?_⟩
          · rw [List.length_map, List.length_take]
            exact Nat.lt_of_le_of_lt (Nat.min_le_left _ _) (small1000 (by omega))
          · rw [upd_same, less_at okl.1 okc.1 (by omega), List.map_append]
            rfl
        · obtain ⟨s4, eD2⟩ := hP
          rw [List.take_of_length_le (by unfold lessR; rw [List.length_zipWith]; omega), ← lt] at eD2
          exact ⟨(s2.trans s3).trans s4, D2, _, _, _, _, eD2, rfl⟩
    · obtain ⟨s2, l, y4, y5, y6, y7, el, rfl⟩ := hW
      rw [List.take_of_length_le (by omega)] at el
      refine ⟨.ref l, rfl, l, _, rfl, .inl ⟨.inl (.inl el), fun z nz => ?_⟩⟩
      generalize h5 : upd H2 z _ = H5
      obtain ⟨s5, e5⟩ := new_of h5 nz
      exact q H5 z ((s1.trans s2).trans s5) e5
def sp_lplain (K : PySem.W.Frag) : Sp := fun vs H Q _ => ∃ (a : Addr) (ws : List V) (rs : List (List Int)) (p : Int) (n : Nat), vs = [.int p, .ref a] ∧ (SqL K H a ws ∨ SqT K H a ws) ∧ DpAll K H ws (rs.map rowD) ∧ RowsOk p n rs ∧ Fld p ∧ p ≤ 1000 ∧ 1 ≤ n ∧ n ≤ 100 ∧ rs.length ≤ 100 ∧
  ∀ H' l, Same H H' → RowsAt K H' l (plainR p n rs) → Q (.ref l) H'
theorem ok__law_plain (T : Top K mg) : Ok P w K mg base 2 "_law_plain" ["_law_p", "_law_rows_here"] (sp_lplain K) := by
  have O__law_left := ok__law_left (P := P) (w := w) (base := base) T
  refine T.d__law_plain.ok sc__law_plain (fun vs H Q E h => ?_) (fun f cdv A outer s H vs Q E hr h => ?_)
  · obtain ⟨a, ws, rs, p, n, rfl, _⟩ := h
    rfl
  · obtain ⟨a, ws, rs, p, n, rfl, hA, hR, ok, hF, hp, n1, hn, lr, q⟩ := h
    have h2 := hF.1
    have lw := rows_len hR
    refine ⟨_, ((pss_cons (ps_set (i := 2) sc__law_plain.nd rfl (.inl rfl) (pe_lst pa_nil))
      (pss_cons (ps_for PassesOwn.never (by rfl) (pi_seqv 1 (pv 1)) (pg_name (i := 3) sc__law_plain.nd rfl (.inl rfl))
        (pss_cons (ps_set (i := 3) sc__law_plain.nd rfl (.inl rfl) (pe_callO O__law_left (hr.mono (by omega)) (by rfl) (pa_cons (pv 0) (pa_cons (pv 2) (pa_cons (pv 3) pa_nil)))))
        (pss_cons (ps_set (i := 5) sc__law_plain.nd rfl (.inr rfl) (pe_lc (own := [("_law_rest", 4)]) (g := gName 4) (by rfl) sc__law_plain.nd (pi_tup (pv 3)) (blkOk_by (own := [("_law_rest", 4)]) (N := N__law_plain) (sc := defScope s__law_plain) (by decide +kernel)) (fun _ _ _ _ _ => (pg_name (i := 4) sc__law_plain.nd rfl (.inl rfl))) (fun _ _ _ _ _ => (pts_one (pt_cmpR op_gt (pv 4) pe_int (nomark _)))) (fun _ _ _ _ _ => (pv 4))))
        (pss_one (ps_if (pt_cmpR (op_neNil hr.units) (pv 5) (pe_lst pa_nil) (nomark _))
          (pss_cons (ps_set (i := 7) sc__law_plain.nd rfl (.inr rfl) (pe_ix ix_list (pe_lc (own := [("_law_k", 6)]) (g := gName 6) (by rfl) sc__law_plain.nd (pi_range1 (by rfl) T.b_range (pa_cons (pv 0) pa_nil)) (blkOk_by (own := [("_law_k", 6)]) (N := N__law_plain) (sc := defScope s__law_plain) (by decide +kernel)) (fun _ _ _ _ _ => (pg_name (i := 6) sc__law_plain.nd rfl (.inl rfl))) (fun _ _ _ _ _ => (pts_one (pt_cmpR op_eq (pe_op op_mod (pe_op op_mul (pv 6) (pe_ix (show IxR _ (rIxL K) from ix_list) (pv 5) pe_int (fun _ _ => rfl))) (pv 0)) pe_int (nomark _)))) (fun _ _ _ _ _ => (pv 6))) pe_int (fun _ _ => rfl)))
          (pss_cons (ps_set (i := 8) sc__law_plain.nd rfl (.inr rfl) (pe_callTy call_tuple_of (by rfl) T.b_tuple (by decide +kernel) (pa_cons (pe_lc (own := [("_law_rest", 4)]) (g := gName 4) (by rfl) sc__law_plain.nd (pi_tup (pv 3)) (blkOk_by (own := [("_law_rest", 4)]) (N := N__law_plain) (sc := defScope s__law_plain) (by decide +kernel)) (fun _ _ _ _ _ => (pg_name (i := 4) sc__law_plain.nd rfl (.inl rfl))) (fun _ _ _ _ _ => pts_nil) (fun _ _ _ _ _ => (pe_op op_mod (pe_op op_mul (pv 4) (pv 7)) (pv 0)))) pa_nil)))
          (pss_one (ps_set (i := 2) sc__law_plain.nd rfl (.inl rfl) (pe_op op_cat (pe_lc (own := [("_law_one", 9)]) (g := gName 9) (by rfl) sc__law_plain.nd (pi_list (pv 2)) (blkOk_by (own := [("_law_one", 9)]) (N := N__law_plain) (sc := defScope s__law_plain) (by decide +kernel)) (fun _ _ _ _ _ => (pg_name (i := 9) sc__law_plain.nd rfl (.inl rfl))) (fun _ _ _ _ _ => pts_nil) (fun _ _ _ _ _ => (pe_callO O__law_left (hr.mono (by omega)) (by rfl) (pa_cons (pv 0) (pa_cons (pe_lst (pa_cons (pv 8) pa_nil)) (pa_cons (pv 9) pa_nil)))))) (pe_lst (pa_cons (pv 8) pa_nil)))))))
          pss_nil)))))
      (pss_one (ps_ret (pe_callTy call_tuple_of (by rfl) T.b_tuple (by decide +kernel) (pa_cons (pe_callBK cr_sortTR (by rfl) T.b_sorted (by decide +kernel) (pa_cons (pv 2) pa_nil) (pk_cons pe_bl pk_nil)) pa_nil))))))), ?_⟩
    refine ⟨Nat.zero_le _, fun L0' nL0 => ?_⟩
    generalize h1 : upd H L0' _ = H1
    obtain ⟨s1, e1⟩ := new_of h1 nL0
    have hq : (∀ H', Same H1 H' → SqL K H' a ws) ∨ (∀ H', Same H1 H' → SqT K H' a ws) := by
      rcases hA with h | h
      · exact .inl fun H' k => sql_same3 (s1.trans k) h
      · exact .inr fun H' k => Same.tup (s1.trans k) h
    refine ⟨a, ws, fun H' => Same H1 H', rfl, Same.refl _, hq, fun J wk => for_it wk (fun i σ H' => Same H1 H' ∧ ∃ (L : Addr) (vs' : List V) (fs : List (List Int)) (y3 y4 y5 y6 y7 y8 y9 : Option V), H' L = some (.lst vs') ∧ DpAll K H' vs' (fs.map rowD) ∧ fs.Perm (plainR p n (rs.take i)) ∧ σ = [some (.int p), some (.ref a), some (.ref L), y3, y4, y5, y6, y7, y8, y9]) ⟨Same.refl _, L0', [], [], none, none, none, none, none, none, none, e1, .nil, by rw [List.take_zero, (PFR.nil hF n).2], rfl⟩ (fun i σ H' _ hW => hW.1) (fun i x σ H2' H2 hi hW hY => ?_) (fun σ H2 hW => ?_)⟩
    · obtain ⟨rfl, hx⟩ := hY
      obtain ⟨s2, L, vs', fs, y3, y4, y5, y6, y7, y8, y9, eL, dL, pm, rfl⟩ := hW
      obtain ⟨c, r, rfl, gr, mr, hc⟩ := dpAll_row (dpAll_same (s1.trans s2) _ _ hR) hx
      have okt : RowsOk p n (rs.take i) := fun x hx => ok x (List.mem_of_mem_take hx)
      have pf := PFR.of_plain hF okt
      have okr := rowsOk_one (ok r mr)
      have tk : rs.take (i + 1) = rs.take i ++ [r] := by
        rw [List.take_add_one, gr]
        rfl
      have pe : plainR p n (rs.take (i + 1)) = plainR p n (plainR p n (rs.take i) ++ [r]) := by
        rw [tk, plainR_app hF okt okr]
      rw [pe]
      have lroom := plainR_lenle hF okt
      generalize plainR p n (rs.take i) = room at pm pf lroom
      have okfs : RowsOk p n fs := fun x hx => pf.1 x (pm.mem_iff.mp hx)
      have lfs : fs.length ≤ n := by rw [pm.length_eq]; exact lroom
      have lvs := rows_len dL
      refine ⟨.int p, rfl, .ref L, rfl, .ref c, rfl, L, c, vs', fs, r, p, n, rfl, .inl (.inl (.inl eL)), dL, hc, okfs, fun x hx => pf.fp_lt hF x (pm.mem_iff.mp hx), okr, by omega, hp, hn, by omega, fun H3 l3 s3 e3 => ?_⟩
      rw [PFR.left_any hF pf pm okr] at e3
      have oky := PFR.left_ok hF pf okr _ List.mem_cons_self
      have stp := PFR.step (found := fs) hF pf pm okr
      have wid0 := pf.widen0 hF okr
      generalize leftR p room r = y at e3 oky stp wid0
      have hy3 : SqT K H3 l3 (y.map V.int) := .inl (.inl e3)
      -- its rests above 0
      refine ⟨.ref l3, rfl, l3, rfl, ⟨_, hy3⟩, fun D nD => lc_it (walk_tup (K := K) (a := l3) (xs := y.map V.int)) (fun k H4 => Same H3 H4 ∧ H4 D = some (.lst (((y.take k).filter fun x => decide (x > 0)).map V.int))) ⟨same_upd nD, upd_same⟩ (fun k H4 _ hP => Same.tup hP.1 hy3) (fun k x H4' H4 hk hP hY => ?_) (fun H4 hP => ?_)⟩
      · obtain ⟨rfl, hx⟩ := hY
        obtain ⟨s4, eD⟩ := hP
        rw [List.getElem?_map] at hx
        obtain ⟨v, hv, rfl⟩ := Option.map_eq_some_iff.mp hx
        rw [List.length_map] at hk
        have lp : ((y.take k).filter fun x => decide (x > 0)).length ≤ y.length := Nat.le_trans (List.length_filter_le _ _) (by rw [List.length_take]; omega)
        have tkv : (y.take (k + 1)).filter (fun x => decide (x > 0)) = (y.take k).filter (fun x => decide (x > 0)) ++ (if v > 0 then [v] else []) := by
          rw [List.take_add_one, hv, List.filter_append]
          congr 1
          by_cases h0 : v > 0
          · rw [if_pos h0]
            exact List.filter_cons_of_pos (show (fun x : Int => decide (x > 0)) v = true from decide_eq_true h0)
          · rw [if_neg h0]
            exact List.filter_cons_of_neg (show ¬ (fun x : Int => decide (x > 0)) v = true by show ¬ decide (v > 0) = true; rw [decide_eq_false h0]; decide)
        refine ⟨rfl, .int v, rfl, _, 0, rfl, rfl, _, rfl, ?_⟩
        by_cases h0 : v > 0
        · rw [decide_eq_true h0]
          refine iteT ⟨.int v, rfl, _, eD, by rw [List.length_map]; exact small1000 (by omega), same_mut s4 nD, ?_⟩
          rw [upd_same, tkv, if_pos h0, List.map_append]
          rfl
        · rw [decide_eq_false h0]
          refine iteF ⟨s4, ?_⟩
          rw [eD, tkv, if_neg h0, List.append_nil]
      obtain ⟨s4, eD⟩ := hP
      rw [List.take_of_length_le (by rw [List.length_map]; exact Nat.le_refl _)] at eD
      refine ⟨.ref D, rfl, Nat.zero_le _, fun z5 nz5 => ?_⟩
      generalize h5 : upd H4 z5 _ = H5
      obtain ⟨s5, e5⟩ := new_of h5 nz5
      have eD5 := s5 _ _ eD
      refine ⟨D, z5, _, rfl, rfl, eD5, e5, _, rfl, ?_⟩
      have s25 := (s3.trans s4).trans s5
      have hy5 := Same.tup (s4.trans s5) hy3
      by_cases hlt : fpR y < n
      · have hd := pos_head (r := y) (fun x hx => (oky.2 x hx).1) (by rw [oky.1]; exact hlt)
        have hne : ((y.filter fun x => decide (x > 0)).map V.int).isEmpty = false := by
          cases hz : y.filter (fun x => decide (x > 0)) with
          | nil => rw [hz] at hd; cases hd
          | cons _ _ => rfl
        rw [hne]
        refine iteT ?_
        have stp := stp hlt
        have b := getD_lt (p := p) (by omega) oky.2 (fpR y)
        have nz : y.getD (fpR y) 0 ≠ 0 := fpR_at (by rw [oky.1]; exact hlt)
        have hc1 := ctr_first0 hF (show 1 ≤ y.getD (fpR y) 0 by omega) b.2
        have hco := ctr_ok hF (show 1 ≤ y.getD (fpR y) 0 by omega) b.2
        have oko := own_row (p := p) (by omega) oky.1 (fpR y)
        have ff := own_first hF oky hlt
        refine ⟨.int p, rfl, p, rfl, by omega, by omega, fun D2 nD2 => ?_⟩
        refine lc_range (lo := 0) (n := p.toNat) (fun k H6 => Same H5 H6 ∧ H6 D2 = some (.lst ((((List.range k).map fun (i : Nat) => ((i : Nat) : Int)).filter fun k => decide (k * y.getD (fpR y) 0 % p = 1)).map V.int))) ⟨same_upd nD2, upd_same⟩ (fun k H6 hk hP => ?_) (fun H6 hP => ?_)
        · obtain ⟨s6, eD2⟩ := hP
          refine ⟨rfl, .int (0 + k), rfl, .ref D, rfl, D, _, 0, .int (y.getD (fpR y) 0), rfl, rfl, .inl (.inl (s6 _ _ eD5)), at_of (j := 0) rfl (by rw [List.getElem?_map, hd]; rfl), _, _, rfl, rfl, .inr ⟨by omega, by omega⟩, .int p, rfl, _, p, rfl, rfl, by omega, rfl, _, rfl, ?_⟩
          rw [show (0 : Int) + (k : Int) = (k : Int) by omega]
          have ek : decide (V.int ((k : Int) * y.getD (fpR y) 0 % p) = V.int 1) = decide ((k : Int) * y.getD (fpR y) 0 % p = 1) := decide_eq_decide.mpr ⟨fun z => V.int.inj z, fun z => by rw [z]⟩
          rw [ek]
          have tkk : ((List.range (k + 1)).map fun (i : Nat) => ((i : Nat) : Int)).filter (fun k => decide (k * y.getD (fpR y) 0 % p = 1)) = ((List.range k).map fun (i : Nat) => ((i : Nat) : Int)).filter (fun k => decide (k * y.getD (fpR y) 0 % p = 1)) ++ (if (k : Int) * y.getD (fpR y) 0 % p = 1 then [(k : Int)] else []) := by
            rw [List.range_succ, List.map_append, List.filter_append]
            congr 1
            by_cases h0 : (k : Int) * y.getD (fpR y) 0 % p = 1
            · rw [if_pos h0]
              exact List.filter_cons_of_pos (decide_eq_true h0)
            · rw [if_neg h0]
              exact List.filter_cons_of_neg (by rw [decide_eq_false h0]; decide)
          have lk : (((List.range k).map fun (i : Nat) => ((i : Nat) : Int)).filter fun k => decide (k * y.getD (fpR y) 0 % p = 1)).length ≤ k := by
            have := List.length_filter_le (fun k : Int => decide (k * y.getD (fpR y) 0 % p = 1)) ((List.range k).map fun (i : Nat) => ((i : Nat) : Int))
            rwa [List.length_map, List.length_range] at this
          by_cases h0 : (k : Int) * y.getD (fpR y) 0 % p = 1
          · rw [decide_eq_true h0]
            refine iteT ⟨.int k, rfl, _, eD2, by rw [List.length_map]; exact small1000 (by omega), same_mut s6 nD2, ?_⟩
            rw [upd_same, tkk, if_pos h0, List.map_append]
            rfl
          · rw [decide_eq_false h0]
            refine iteF ⟨s6, ?_⟩
            rw [eD2, tkk, if_neg h0, List.append_nil]
        obtain ⟨s6, eD2⟩ := hP
        refine ⟨D2, _, 0, .int (ctr p (y.getD (fpR y) 0)), rfl, rfl, .inl (.inl eD2), at_of (j := 0) rfl (by rw [List.getElem?_map, hc1]; rfl), ?_⟩
        have hy6 := Same.tup s6 hy5
        generalize hct : ctr p (y.getD (fpR y) 0) = ct at hco
        refine ⟨.ref l3, rfl, l3, rfl, ⟨_, hy6⟩, lc_tupI (fun x => x * ct % p) hy6 (by omega) (fun _ => rfl) (fun x H' Q' mx sm hQ => ?_) (fun D3 H7 s7 nD3 eD3 => ?_)⟩
        · exact ⟨.int x, rfl, .int ct, rfl, x, ct, rfl, rfl, .inr ⟨by omega, by omega⟩, .int p, rfl, _, p, rfl, rfl, by omega, hQ⟩
        refine ⟨D3, _, rfl, .inl ⟨.inl (.inl eD3), fun lo nlo => ?_⟩⟩
        generalize h8 : upd H7 lo _ = H8
        obtain ⟨s8, e8⟩ := new_of h8 nlo
        have eo : y.map (fun x => x * ct % p) = ownR p y (fpR y) := by
          unfold ownR
          rw [hct]
          refine List.map_congr_left fun x _ => ?_
          rw [Int.mul_comm]
        rw [eo] at e8
        generalize ownR p y (fpR y) = own at e8 stp oko ff
        have s28 := (s25.trans s6).trans (s7.trans s8)
        have eL8 := s28 _ _ eL
        have dL8 := dpAll_same s28 _ _ dL
        refine ⟨.ref L, rfl, L, rfl, ⟨_, .inl (.inl eL8)⟩, lc_mapR (K := K) (fun e => rowD (lessR p (intsOf e) own (fpR own))) (walk_list (K := K) (a := L) (xs := vs')) (fun H' s => .inl (.inl (s _ _ eL8))) (rep_rows dL8) (by omega) (fun _ => rfl) (fun v e H' Q' me rv sm hQ => ?_) (fun D4 H9 w9 s9 nD4 eD4 r9 => ?_)⟩
        · obtain ⟨x, mx, rfl⟩ := List.mem_map.mp me
          obtain ⟨c', rfl, hc'⟩ := rep_row rv
          rw [ints_row] at hQ
          refine ⟨.int p, rfl, .ref lo, rfl, sz1000 (by decide : (1 : Nat) ≤ 1000), fun u nu => ?_⟩
          generalize h10 : upd H' u _ = H10
          obtain ⟨s10, e10⟩ := new_of h10 nu
          have eo10 : SqT K H10 lo (own.map V.int) := .inl (.inl (s10 _ _ (sm _ _ e8)))
          exact ⟨.ref c', rfl, u, c', [.ref lo], [own], x, p, n, rfl, .inl (.inl (.inl e10)), .cons (row_dp eo10) .nil, Same.tup s10 hc', rowsOk_one oko, (fun d hd => by
            have : d = own := by simpa using hd
            rw [this, ff]
            exact hlt), rowsOk_one (okfs x mx), by omega, hp, hn, (by show 1 ≤ 100; decide), fun H'' l'' s'' e'' => hQ (.ref l'') H'' (s10.trans s'') (row_rep (.inl (.inl e'')))⟩
        have em : (fs.map rowD).map (fun e => rowD (lessR p (intsOf e) own (fpR own))) = (fs.map fun x => lessR p x own (fpR y)).map rowD := by
          rw [List.map_map, List.map_map]
          refine List.map_congr_left fun x _ => ?_
          show rowD (lessR p (intsOf (rowD x)) own (fpR own)) = rowD (lessR p x own (fpR y))
          rw [ints_row, ff]
        rw [em] at r9
        have d9 := repAll_rows r9
        have l9 := rows_len d9
        rw [List.length_map] at l9
        refine ⟨.ref lo, rfl, sz1000 (by decide : (1 : Nat) ≤ 1000), fun u nu => ?_⟩
        generalize h11 : upd H9 u _ = H11
        obtain ⟨s11, e11⟩ := new_of h11 nu
        refine ⟨D4, u, _, _, rfl, rfl, s11 _ _ eD4, e11, Nat.le_of_lt (small1000 (by simp; omega)), fun N nN => ?_⟩
        generalize h12 : upd H11 N _ = H12
        obtain ⟨s12, e12⟩ := new_of h12 nN
        have s912 := s11.trans s12
        have s812 := s9.trans s912
        refine ⟨(s2.trans s28).trans s812, N, _, (fs.map fun x => lessR p x own (fpR y)) ++ [own], _, _, _, _, _, _, _, e12, ?_, stp, rfl⟩
        rw [List.map_append]
        exact dpAll_append (dpAll_same s912 _ _ d9) (.cons (row_dp (.inl (.inl (s812 _ _ e8)))) .nil)
      · have hz : fpR y = y.length := by
          have := fpR_le y
          omega
        have h0 := fpR_all hz
        have hne : ((y.filter fun x => decide (x > 0)).map V.int).isEmpty = true := by
          have : y.filter (fun x => decide (x > 0)) = [] := List.filter_eq_nil_iff.mpr fun x hx => by rw [h0 x hx]; decide
          rw [this]
          rfl
        rw [hne]
        refine iteF ⟨s2.trans s25, L, vs', fs, _, _, _, _, _, _, _, s25 _ _ eL, dpAll_same s25 _ _ dL, ?_, rfl⟩
        rw [← wid0 h0]
        exact pm
    · obtain ⟨s2, L, vs', fs, y3, y4, y5, y6, y7, y8, y9, eL, dL, pm, rfl⟩ := hW
      rw [List.take_of_length_le (by omega)] at pm
      have pf := PFR.of_plain hF ok
      refine ⟨.ref L, rfl, L, _, n, p, rfl, rfl, n1, .inl (.inl eL), fun x hx => ?_, fun ys S pmv pw nS => ?_⟩
      · obtain ⟨i, hi, rfl⟩ := List.getElem_of_mem hx
        obtain ⟨c, rc, ec, gr, mr, hc⟩ := dpAll_row dL (List.getElem?_eq_getElem hi)
        have := pf.1 rc (pm.mem_iff.mp mr)
        exact ⟨rc, ⟨c, ec, hc⟩, this.1, this.2⟩
      generalize h7 : upd H2 S _ = H7
      obtain ⟨s7, e7⟩ := new_of h7 nS
      obtain ⟨rs', pm', d'⟩ := dpAll_perm pmv dL
      have er := PFR.desc_one hF pf (pm'.trans pm) (dpAll_pw d' pw)
      refine ⟨S, ys, rfl, .inl ⟨.inl (.inl e7), fun R nR => ?_⟩⟩
      generalize h8 : upd H7 R _ = H8
      obtain ⟨s8, e8⟩ := new_of h8 nR
      refine q H8 R (((s1.trans s2).trans s7).trans s8) ⟨ys, .inl (.inl e8), ?_⟩
      rw [← er]
      exact dpAll_same (s7.trans s8) _ _ d'
def sp_row3 : Sp := fun vs H Q _ => ∃ (d c : Addr) (t p : Int) (n : Nat), vs = [.ref d, .int p, .int (n : Int)] ∧ Deck H d c t ∧ t ≤ 900000 ∧ 2 ≤ p ∧ p ≤ 1000 ∧ 1 ≤ n ∧ n ≤ 100 ∧ ∀ H' a r t', Kept d c H H' → Deck H' d c t' → t' ≤ t + 2 + 2 * n → H a = none → H' a = some (.tup (r.map V.int)) → RowsOk p n [r] → Q (.ref a) H'
theorem kept_none {d c l : Addr} {t : Int} {H H' : Hp} (D : Deck H' d c t) (k : Kept d c H H') (n : H' l = none) : H l = none := by
  cases hl : H l with
  | none => rfl
  | some o =>
    have bl := D.fresh n
    rw [k l o hl (fun z => bl (.inl z)) (fun z => bl (.inr z))] at n
    cases n
/-- a comprehension of drawn rests -/
theorem lc_drawn {d c : Addr} {t p : Int} {n : Nat} {σ : L2.St} {H : Hp} {Qd : Addr → Hp → Prop} {i : Nat} {sl : List Nat} {te : TE} (D0 : Deck H d c t) (hn : n ≤ 100) (hw : ∀ x : Option V, wipe ((wipe σ sl).set i x) sl = wipe σ sl)
    (hte : ∀ (k : Nat) (t' : Int) (H' : Hp) (Q' : VK), Deck H' d c t' → t' ≤ t + 2 * k → k < n → (∀ H'' t'' x, Kept d c H' H'' → Deck H'' d c t'' → t'' ≤ t' + 2 → 0 ≤ x → x < p → Q' (.int x) H'') → te ((wipe σ sl).set i (some (.int (0 + (k : Int))))) H' Q')
    (hd : ∀ (D : Addr) (H' : Hp) (t' : Int) (r : List Int), Kept d c H H' → Deck H' d c t' → t' ≤ t + 2 * n → H' D = some (.lst (r.map V.int)) → r.length = n → (∀ x ∈ r, 0 ≤ x ∧ x < p) → Qd D H') :
    LcGoal (Itr 0 n) (gName i) tYes te sl σ H Qd := by
  intro D nD
  have bD := D0.fresh nD
  refine lc_range (lo := 0) (n := n) (fun k H' => Kept d c H H' ∧ ∃ (t' : Int) (r : List Int), Deck H' d c t' ∧ t' ≤ t + 2 * k ∧ H' D = some (.lst (r.map V.int)) ∧ r.length = k ∧ ∀ x ∈ r, 0 ≤ x ∧ x < p) ⟨Kept.of (same_upd nD), t, [], D0.same (same_upd nD), by omega, upd_same, rfl, fun x hx => nomatch hx⟩ (fun k H' hk hW => ?_) (fun H' hW => ?_)
  · obtain ⟨k', t', r, D', ht', eB, ln, ro⟩ := hW
    refine ⟨hw _, hte k t' H' _ D' ht' hk fun H1 t1 x k1 D1 ht1 x0 x1 => ?_⟩
    refine ⟨r.map V.int, k1 _ _ eB (fun z => bD (.inl z)) (fun z => bD (.inr z)), by rw [List.length_map]; exact small1000 (by omega), (k'.trans k1).mut nD, t1, r ++ [x], D1.mut bD, by omega, ?_, by rw [List.length_append, ln]; rfl, fun y hy => ?_⟩
    · rw [upd_same, List.map_append]
      rfl
    · rcases List.mem_append.mp hy with h | h
      · exact ro y h
      · have : y = x := by simpa using h
        rw [this]
        exact ⟨x0, x1⟩
  · obtain ⟨k', t', r, D', ht', eB, ln, ro⟩ := hW
    exact hd D H' t' r k' D' ht' eB ln ro
theorem ok__law_row (T : Top K mg) : Ok P w K mg base 2 "_law_row" ["_law_deck_here", "_law_p", "_law_n"] sp_row3 := by
  have O__law_draw := ok__law_draw (P := P) (w := w) (base := base) T
  refine T.d__law_row.ok sc__law_row (fun vs H Q E h => ?_) (fun f cdv A outer s H vs Q E hr h => ?_)
  · obtain ⟨d, c, t, p, n, rfl, _⟩ := h
    rfl
  · obtain ⟨d, c, t, p, n, rfl, D0, ht, hp1, hp2, n1, hn, q⟩ := h
    refine ⟨_, ((pss_cons (ps_set (i := 3) sc__law_row.nd rfl (.inr rfl) (pe_callO O__law_draw (hr.mono (by omega)) (by rfl) (pa_cons (pv 0) (pa_cons pe_int pa_nil))))
      (pss_cons (ps_set (i := 4) sc__law_row.nd rfl (.inr rfl) (pe_callO O__law_draw (hr.mono (by omega)) (by rfl) (pa_cons (pv 0) (pa_cons (pv 2) pa_nil))))
      (pss_cons (ps_if (pt_cmpR op_eq (pv 3) pe_int (nomark _))
        (pss_one (ps_ret (pe_callTy call_tuple_of (by rfl) T.b_tuple (by decide +kernel) (pa_cons (pe_lc (own := [("_law_k", 5)]) (g := gName 5) (by rfl) sc__law_row.nd (pi_range1 (by rfl) T.b_range (pa_cons (pv 2) pa_nil)) (blkOk_by (own := [("_law_k", 5)]) (N := N__law_row) (sc := defScope s__law_row) (by decide +kernel)) (fun _ _ _ _ _ => (pg_name (i := 5) sc__law_row.nd rfl (.inl rfl))) (fun _ _ _ _ _ => pts_nil) (fun _ _ _ _ _ => (pe_callTy call_int1 (by rfl) T.b_int (by decide +kernel) (pa_cons (pe_cmpR op_eq (pv 5) (pv 4) (nomark _)) pa_nil)))) pa_nil))))
        pss_nil)
      (pss_cons (ps_if (pt_cmpR op_eq (pv 3) pe_int (nomark _))
        (pss_one (ps_ret (pe_callTy call_tuple_of (by rfl) T.b_tuple (by decide +kernel) (pa_cons (pe_lc (own := [("_law_k", 5)]) (g := gName 5) (by rfl) sc__law_row.nd (pi_range1 (by rfl) T.b_range (pa_cons (pv 2) pa_nil)) (blkOk_by (own := [("_law_k", 5)]) (N := N__law_row) (sc := defScope s__law_row) (by decide +kernel)) (fun _ _ _ _ _ => (pg_name (i := 5) sc__law_row.nd rfl (.inl rfl))) (fun _ _ _ _ _ => pts_nil) (fun _ _ _ _ _ => (pe_callO O__law_draw (hr.mono (by omega)) (by rfl) (pa_cons (pv 0) (pa_cons pe_int pa_nil))))) pa_nil))))
        pss_nil)
      (pss_one (ps_ret (pe_callTy call_tuple_of (by rfl) T.b_tuple (by decide +kernel) (pa_cons (pe_lc (own := [("_law_k", 5)]) (g := gName 5) (by rfl) sc__law_row.nd (pi_range1 (by rfl) T.b_range (pa_cons (pv 2) pa_nil)) (blkOk_by (own := [("_law_k", 5)]) (N := N__law_row) (sc := defScope s__law_row) (by decide +kernel)) (fun _ _ _ _ _ => (pg_name (i := 5) sc__law_row.nd rfl (.inl rfl))) (fun _ _ _ _ _ => pts_nil) (fun _ _ _ _ _ => (pe_op op_mul (pe_callO O__law_draw (hr.mono (by omega)) (by rfl) (pa_cons (pv 0) (pa_cons (pv 1) pa_nil))) (pe_ix (show IxR _ (rIxL K) from ix_list) (pe_lst (pa_cons pe_int (pa_cons (pe_callO O__law_draw (hr.mono (by omega)) (by rfl) (pa_cons (pv 0) (pa_cons pe_int pa_nil))) pa_nil))) (pe_op op_sub (pv 3) pe_int) (fun _ _ => rfl))))) pa_nil))))))))), ?_⟩
    refine ⟨.ref d, rfl, d, c, t, 4, rfl, D0, by omega, by decide, by decide, fun H1 z1 k1 D1 a0 a1 => ?_⟩
    refine ⟨.ref d, rfl, .int n, rfl, d, c, _, n, rfl, D1, by omega, by omega, by omega, fun H2 z2 k2 D2 b0 b1 => ?_⟩
    have k02 := k1.trans k2
    have last : ∀ (D : Addr) (H' : Hp) (t' : Int) (r : List Int), Kept d c H2 H' → Deck H' d c t' → t' ≤ t + 1 + 1 + 2 * n → H' D = some (.lst (r.map V.int)) → r.length = n → (∀ x ∈ r, 0 ≤ x ∧ x < p) → ∀ l, H' l = none → Q (.ref l) (upd H' l (.tup (r.map V.int))) := by
      intro D H' t' r k' D' ht' eB ln ro l nl
      have s2 := same_upd (o := .tup (r.map V.int)) nl
      exact q _ l r t' (k02.trans (k'.trans (Kept.of s2))) (D'.same s2) (by omega) (kept_none D' (k02.trans k') nl) upd_same (rowsOk_one ⟨ln, ro⟩)
    refine ⟨.int z1, rfl, rfl, _, rfl, ite2 (fun _ => ?_) (fun w0 => ?_)⟩
    · refine ⟨.int n, rfl, n, rfl, by omega, by omega, lc_drawn (p := p) (t := t + 1 + 1) D2 hn (fun _ => rfl) (fun k t' H' Q' D' ht' hk hQ => ?_) (fun D H' t' r k' D' ht' eB ln ro => ⟨D, _, rfl, .inl ⟨.inl (.inl eB), last D H' t' r k' D' ht' eB ln ro⟩⟩)⟩
      refine ⟨.int (0 + k), rfl, .int z2, rfl, rfl, .inr ⟨_, rfl, ?_⟩⟩
      by_cases e : V.int (0 + (k : Int)) = V.int z2
      · rw [decide_eq_true e]
        exact hQ H' t' 1 (Kept.refl _ _ _) D' (by omega) (by omega) (by omega)
      · rw [decide_eq_false e]
        exact hQ H' t' 0 (Kept.refl _ _ _) D' (by omega) (by omega) (by omega)
    refine ⟨.int z1, rfl, rfl, _, rfl, ite2 (fun _ => ?_) (fun w1 => ?_)⟩
    · refine ⟨.int n, rfl, n, rfl, by omega, by omega, lc_drawn (p := p) (t := t + 1 + 1) D2 hn (fun _ => rfl) (fun k t' H' Q' D' ht' hk hQ => ?_) (fun D H' t' r k' D' ht' eB ln ro => ⟨D, _, rfl, .inl ⟨.inl (.inl eB), last D H' t' r k' D' ht' eB ln ro⟩⟩)⟩
      exact ⟨.ref d, rfl, d, c, t', 2, rfl, D', by omega, by decide, by decide, fun H3 x k3 D3 x0 x1 => hQ H3 _ x k3 D3 (by omega) x0 (by omega)⟩
    have z0 : z1 ≠ 0 := fun e => w0 (by rw [e]; rfl)
    have z1' : z1 ≠ 1 := fun e => w1 (by rw [e]; rfl)
    refine ⟨.int n, rfl, n, rfl, by omega, by omega, lc_drawn (p := p) (t := t + 1 + 1) D2 hn (fun _ => rfl) (fun k t' H' Q' D' ht' hk hQ => ?_) (fun D H' t' r k' D' ht' eB ln ro => ⟨D, _, rfl, .inl ⟨.inl (.inl eB), last D H' t' r k' D' ht' eB ln ro⟩⟩)⟩
    refine ⟨.ref d, rfl, .int p, rfl, d, c, t', p, rfl, D', by omega, by omega, by omega, fun H3 x k3 D3 x0 x1 => ?_⟩
    refine ⟨.ref d, rfl, d, c, _, 2, rfl, D3, by omega, by decide, by decide, fun H4 y k4 D4 y0 y1 => ?_⟩
    refine ⟨sz1000 (by decide : (2 : Nat) ≤ 1000), fun o no => ?_⟩
    generalize h5 : upd H4 o _ = H5
    obtain ⟨s5, e5⟩ := new_of h5 no
    have hw : ∃ w : Int, atI [V.int 1, V.int y] (z1 - 2) = some (.int w) ∧ (w = 1 ∨ w = y) := by
      have : z1 = 2 ∨ z1 = 3 := by omega
      rcases this with rfl | rfl
      · exact ⟨1, rfl, .inl rfl⟩
      · exact ⟨y, rfl, .inr rfl⟩
    obtain ⟨w, hat, hw⟩ := hw
    refine ⟨.int z1, rfl, z1, 2, rfl, rfl, o, _, _, .int w, rfl, rfl, .inl (.inl e5), hat, x, w, rfl, rfl, .inl ⟨by omega, by omega⟩, hQ H5 _ (x * w) (k3.trans (k4.trans (Kept.of s5))) (D4.same s5) (by omega) (Int.mul_nonneg x0 (by omega)) ?_⟩
    have : w = 0 ∨ w = 1 := by omega
    rcases this with e | e
    · rw [e]; omega
    · rw [e]; omega
def sp_names3 : Sp := fun vs H Q _ => ∃ (d c : Addr) (t : Int) (m : Nat), vs = [.ref d, .int (m : Int)] ∧ Deck H d c t ∧ t ≤ 900000 ∧ m ≤ 26 ∧ ∀ H' a (xs : List Str) t', Kept d c H H' → Deck H' d c t' → t' ≤ t + 12 → H a = none → H' a = some (.lst (xs.map V.str)) → xs.length = m → sortedS xs = true → xs.Nodup → (∀ x ∈ xs, NameOk x) → Q (.ref a) H'
theorem at8 {xs : List Int} (hl : xs.length = 8) {r : Int} (h0 : 0 ≤ r) (h1 : r < 8) : ∃ z, z ∈ xs ∧ atI (xs.map V.int) r = some (V.int z) := by
  obtain ⟨x, hx, hx2, hx3⟩ := at_int (xs := xs) h0 (by omega)
  exact ⟨x, hx, hx3⟩
theorem ok__law_names (T : Top K mg) : Ok P w K mg base 2 "_law_names" ["_law_deck_here", "_law_many"] sp_names3 := by
  have O__law_draw := ok__law_draw (P := P) (w := w) (base := base) T
  refine T.d__law_names.ok sc__law_names (fun vs H Q E h => ?_) (fun f cdv A outer s H vs Q E hr h => ?_)
  · obtain ⟨d, c, t, m, rfl, _⟩ := h
    rfl
  · obtain ⟨d, c, t, m, rfl, D0, ht, hm, q⟩ := h
    refine ⟨_, ((pss_cons (ps_set (i := 2) sc__law_names.nd rfl (.inr rfl) pe_str)
      (pss_cons (ps_set (i := 3) sc__law_names.nd rfl (.inl rfl) (pe_ix ix_list (pe_lst (pa_cons pe_int (pa_cons pe_int (pa_cons pe_int (pa_cons pe_int (pa_cons pe_int (pa_cons pe_int (pa_cons pe_int (pa_cons pe_int pa_nil))))))))) (pe_callO O__law_draw (hr.mono (by omega)) (by rfl) (pa_cons (pv 0) (pa_cons pe_int pa_nil))) (fun _ _ => rfl)))
      (pss_cons (ps_set (i := 5) sc__law_names.nd rfl (.inl rfl) (pe_join pe_str (pe_lc (own := [("_law_k", 4)]) (g := gName 4) (by rfl) sc__law_names.nd (pi_range1 (by rfl) T.b_range (pa_cons (pv 3) pa_nil)) (blkOk_by (own := [("_law_k", 4)]) (N := N__law_names) (sc := defScope s__law_names) (by decide +kernel)) (fun _ _ _ _ _ => (pg_name (i := 4) sc__law_names.nd rfl (.inl rfl))) (fun _ _ _ _ _ => pts_nil) (fun _ _ _ _ _ => (pe_ix ix_str (pv 2) (pe_callO O__law_draw (hr.mono (by omega)) (by rfl) (pa_cons (pv 0) (pa_cons pe_int pa_nil))) (fun _ _ => rfl))))))
      (pss_cons (ps_set (i := 6) sc__law_names.nd rfl (.inl rfl) (pe_callO O__law_draw (hr.mono (by omega)) (by rfl) (pa_cons (pv 0) (pa_cons (pe_op op_add (pe_callB call_len_str (by rfl) T.b_len (by decide +kernel) (pa_cons (pv 5) pa_nil)) pe_int) pa_nil))))
      (pss_cons (ps_set (i := 7) sc__law_names.nd rfl (.inl rfl) (pe_callO O__law_draw (hr.mono (by omega)) (by rfl) (pa_cons (pv 0) (pa_cons pe_int pa_nil))))
      (pss_cons (ps_set (i := 8) sc__law_names.nd rfl (.inl rfl) (pe_ix ix_list (pe_lst (pa_cons pe_int (pa_cons pe_int (pa_cons pe_int (pa_cons pe_int (pa_cons pe_int (pa_cons pe_int (pa_cons pe_int (pa_cons pe_int pa_nil))))))))) (pe_callO O__law_draw (hr.mono (by omega)) (by rfl) (pa_cons (pv 0) (pa_cons pe_int pa_nil))) (fun _ _ => rfl)))
      (pss_cons (ps_set (i := 9) sc__law_names.nd rfl (.inl rfl) (pe_lst pa_nil))
      (pss_cons (ps_for PassesOwn.never (by rfl) (pi_range1 (by rfl) T.b_range (pa_cons (pv 1) pa_nil)) (pg_name (i := 4) sc__law_names.nd rfl (.inl rfl))
        (pss_cons (ps_set (i := 10) sc__law_names.nd rfl (.inl rfl) (pe_ix ix_str (pv 2) (pe_op op_mod (pe_op op_add (pv 7) (pe_op op_mul (pv 8) (pv 4))) pe_int) (fun _ _ => rfl)))
        (pss_one (ps_expr (pe_bm PySem.F.plainAttrs_list PySem.F.slot_list_append PySem.F.type_list_append mt_append (pv 9) (pa_cons (pe_op op_add_str (pe_op op_add_str (pe_slice C8.sl_txt (pv 5) po_none (po_some (pv 6))) (pv 10)) (pe_slice C8.sl_txt (pv 5) (po_some (pv 6)) po_none)) pa_nil))))))
      (pss_one (ps_ret (pe_callB cr_sortedS (by rfl) T.b_sorted (by decide +kernel) (pa_cons (pv 9) pa_nil))))))))))))), ?_⟩
    refine ⟨by decide +kernel, fun l0 n0 => ?_⟩
    dsimp only
    generalize h1 : upd H l0 _ = H1
    obtain ⟨s1, e1⟩ := new_of h1 n0
    have D1 := D0.same s1
    have b0 := D0.fresh n0
    refine ⟨.ref d, rfl, d, c, t, 8, rfl, D1, by omega, by decide, by decide, fun H2 z2 k2 D2 a0 a1 => ?_⟩
    have el0 := k2 _ _ e1 (fun z => b0 (.inl z)) (fun z => b0 (.inr z))
    obtain ⟨lg, mlg, hlg⟩ := at8 (xs := [0, 0, 1, 2, 3, 5, 6, 7]) rfl a0 a1
    have lg7 : 0 ≤ lg ∧ lg ≤ 7 := by
      have : ∀ z ∈ ([0, 0, 1, 2, 3, 5, 6, 7] : List Int), 0 ≤ z ∧ z ≤ 7 := by decide
      exact this lg mlg
    refine ⟨l0, _, z2, .int lg, rfl, rfl, .inl (.inl el0), hlg, ?_⟩
    refine ⟨⟨_, rfl⟩, .int lg, rfl, lg, rfl, by omega, by omega, fun D nD => ?_⟩
    have bD := D2.fresh nD
    refine lc_range (lo := 0) (n := lg.toNat) (fun k H' => Kept d c H2 H' ∧ ∃ (t' : Int) (cs : List Nat), Deck H' d c t' ∧ t' ≤ t + 1 + k ∧ H' D = some (.lst ((cs.map fun c => SX.S [c]).map V.str)) ∧ cs.length = k ∧ ∀ x ∈ cs, 97 ≤ x ∧ x ≤ 122) ⟨Kept.of (same_upd nD), t + 1, [], D2.same (same_upd nD), by omega, upd_same, rfl, fun x hx => nomatch hx⟩ (fun k H' hk hW => ?_) (fun H' hW => ?_)
    · obtain ⟨k', t', cs, D', ht', eB, ln, ro⟩ := hW
      refine ⟨rfl, .str lettersS, rfl, .ref d, rfl, d, c, t', 26, rfl, D', by omega, by decide, by decide, fun H3 x k3 D3 x0 x1 => ?_⟩
      refine ⟨lettersS, x, _, rfl, rfl, by decide +kernel, letters_at x0 x1, ?_⟩
      refine ⟨_, k3 _ _ eB (fun z => bD (.inl z)) (fun z => bD (.inr z)), by rw [List.length_map, List.length_map]; exact small1000 (by omega), (k'.trans k3).mut nD, t' + 1, cs ++ [97 + x.toNat], D3.mut bD, by omega, ?_, by rw [List.length_append, ln]; rfl, fun y hy => ?_⟩
      · rw [upd_same, List.map_append, List.map_append]
        rfl
      · rcases List.mem_append.mp hy with h | h
        · exact ro y h
        · rw [List.mem_singleton.mp h]
          omega
    obtain ⟨k3, t3, cs, D3, ht3, eB, ln, ro⟩ := hW
    refine ⟨_, D, _, rfl, rfl, .inl (.inl (.inl eB)), ?_, ?_⟩
    · rw [ones_sum, List.length_map, ln, show (Str.ofString "").length = 0 from rfl]
      omega
    rw [join_cs]
    have lcs : (SX.S cs).length = cs.length := SX.S_len cs
    have sz : (SX.S cs).length ≤ sizeLine := by rw [lcs]; exact Nat.le_of_lt (small1000 (by omega))
    refine ⟨.ref d, rfl, .str (SX.S cs), rfl, _, rfl, sz, _, 1, rfl, rfl, d, c, t3, _, rfl, D3, by omega, by rw [lcs]; omega, by rw [lcs]; omega, fun H4 cut k4 D4 c0 c1 => ?_⟩
    refine ⟨.ref d, rfl, d, c, t3 + 1, 26, rfl, D4, by omega, by decide, by decide, fun H5 fi k5 D5 f0 f1 => ?_⟩
    refine ⟨by decide +kernel, fun l6 n6 => ?_⟩
    dsimp only
    generalize h6 : upd H5 l6 _ = H6
    obtain ⟨s6, e6⟩ := new_of h6 n6
    have D6 := D5.same s6
    have b6 := D5.fresh n6
    refine ⟨.ref d, rfl, d, c, t3 + 1 + 1, 8, rfl, D6, by omega, by decide, by decide, fun H7 z7 k7 D7 g0 g1 => ?_⟩
    have el6 := k7 _ _ e6 (fun z => b6 (.inl z)) (fun z => b6 (.inr z))
    obtain ⟨st, mst, hst⟩ := at8 (xs := [1, 3, 5, 7, 9, 11, 15, 17]) rfl g0 g1
    have hs8 : st = 1 ∨ st = 3 ∨ st = 5 ∨ st = 7 ∨ st = 9 ∨ st = 11 ∨ st = 15 ∨ st = 17 := by
      have : ∀ z ∈ ([1, 3, 5, 7, 9, 11, 15, 17] : List Int), z = 1 ∨ z = 3 ∨ z = 5 ∨ z = 7 ∨ z = 9 ∨ z = 11 ∨ z = 15 ∨ z = 17 := by decide
      exact this st mst
    refine ⟨l6, _, z7, .int st, rfl, rfl, .inl (.inl el6), hst, ?_⟩
    refine ⟨Nat.zero_le _, fun L nL => ?_⟩
    generalize h8' : upd H7 L _ = H8
    obtain ⟨s8', e8'⟩ := new_of h8' nL
    have k07 : Kept d c H H7 := (Kept.of s1).trans (k2.trans (k3.trans (k4.trans (k5.trans ((Kept.of s6).trans k7)))))
    refine ⟨.int m, rfl, m, rfl, by omega, by omega, for_range (lo := 0) (n := (m : Int).toNat) (fun k σ H' => Same H7 H' ∧ ∃ y4 y10 : Option V, H' L = some (.lst (((List.range k).map (nameAt cs cut fi st)).map V.str)) ∧ σ = [some (.ref d), some (.int (m : Int)), some (.str lettersS), some (.int lg), y4, some (.str (SX.S cs)), some (.int cut), some (.int fi), some (.int st), some (.ref L), y10]) ⟨s8', none, none, e8', rfl⟩ (fun k σ H' hk hW => ?_) (fun σ H' hW => ?_)⟩
    · obtain ⟨s8, y4, y10, e8, rfl⟩ := hW
      have sk : 0 ≤ st * k ∧ st * k ≤ 17 * 26 := by
        rcases hs8 with rfl | rfl | rfl | rfl | rfl | rfl | rfl | rfl
        all_goals omega
      have r0 := Int.emod_nonneg (fi + st * k) (b := 26) (by decide)
      have r1 := Int.emod_lt_of_pos (fi + st * k) (b := 26) (by decide)
      have l1 : (SX.S (cs.take cut.toNat)).length ≤ 7 := by
        rw [SX.S_len, List.length_take]
        omega
      have l2 : (SX.S (cs.drop cut.toNat)).length ≤ 7 := by
        rw [SX.S_len, List.length_drop]
        omega
      refine ⟨.str lettersS, rfl, .int fi, rfl, .int st, rfl, .int (0 + k), rfl, ?_⟩
      rw [show (0 : Int) + (k : Int) = (k : Int) by omega]
      refine ⟨st, k, rfl, rfl, .inl ⟨by omega, by omega⟩, fi, _, rfl, rfl, _, 26, rfl, rfl, show (0 : Int) < 26 by decide, lettersS, _, _, rfl, rfl, by decide +kernel, letters_at r0 r1, ?_⟩
      refine ⟨.ref L, rfl, .inl ⟨rfl, _, .inl (.inl e8)⟩, .str (SX.S cs), rfl, .int cut, rfl, cut, rfl, _, rfl, sz, .str _, rfl, ?_⟩
      rw [SX.slice_to c0]
      refine ⟨_, _, rfl, rfl, ?_, .str (SX.S cs), rfl, .int cut, rfl, cut, rfl, _, rfl, sz, ?_⟩
      · exact Nat.le_of_lt (small1000 (by rw [show (Str.length ⟨#[97 + ((fi + st * k) % 26).toNat]⟩) = 1 from rfl]; omega))
      rw [SX.slice_from c0]
      refine ⟨_, _, rfl, rfl, ?_, L, _, _, rfl, rfl, e8, by rw [List.length_map, List.length_map, List.length_range]; exact small1000 (by omega), same_mut s8 nL, _, _, ?_, rfl⟩
      · refine Nat.le_of_lt (small1000 ?_)
        rw [show (Str.mk #[97 + ((fi + st * k) % 26).toNat]) = SX.S [97 + ((fi + st * k) % 26).toNat] from rfl, SX.S_cat, SX.S_len, List.length_append]
        rw [SX.S_len] at l1
        simp only [List.length_cons, List.length_nil]
        omega
      · rw [upd_same, List.range_succ, List.map_append, List.map_append]
        rw [show (Str.mk #[97 + ((fi + st * k) % 26).toNat]) = SX.S [97 + ((fi + st * k) % 26).toNat] from rfl, SX.S_cat, SX.S_cat, List.append_assoc]
        rfl
    · obtain ⟨s8, y4, y10, e8, rfl⟩ := hW
      refine ⟨.ref L, rfl, L, _, rfl, .inl (.inl e8), by rw [List.length_map, List.length_range]; omega, fun ys p pm so np => ?_⟩
      have s9 := same_upd (o := .lst (ys.map V.str)) np
      refine q _ p ys _ ((k07.trans (Kept.of s8)).trans (Kept.of s9)) ((D7.same s8).same s9) (by omega) (kept_none (D7.same s8) (k07.trans (Kept.of s8)) np) upd_same ?_ so (pm.nodup_iff.mpr (names_nodup hs8 (by omega))) (fun x hx => ?_)
      · rw [pm.length_eq, List.length_map, List.length_range]
        omega
      · obtain ⟨i, _, rfl⟩ := List.mem_map.mp (pm.mem_iff.mp hx)
        exact nameAt_ok ro (by omega)
end
end OC
set_option Elab.async false
set_option linter.all false
set_option maxRecDepth 100000
set_option maxHeartbeats 4000000
namespace OC
open PySem PySem.Spec PyProof.Rows L2
section
variable {P : Program} {w : World} {K : PySem.W.Frag} {mg : Str → Option Value} {base : Heap}
def sp_lwithin (K : PySem.W.Frag) : Sp := fun vs H Q _ => ∃ (a b : Addr) (ws : List V) (room : List (List Int)) (r : List Int) (p : Int) (n : Nat), vs = [.int p, .ref a, .ref b] ∧ (SqL K H a ws ∨ SqT K H a ws) ∧ DpAll K H ws (room.map rowD) ∧ SqT K H b (r.map V.int) ∧ RowsOk p n room ∧ (∀ c ∈ room, fpR c < n) ∧ RowsOk p n [r] ∧ 0 < p ∧ p ≤ 1000 ∧ 1 ≤ n ∧ n ≤ 100 ∧ room.length ≤ 100 ∧
  ∀ H' (x : Bool), Same H H' → (x = true ↔ ∀ y ∈ leftR p room r, y = 0) → Q (.bl x) H'
theorem ok__law_within (T : Top K mg) : Ok P w K mg base 2 "_law_within" ["_law_p", "_law_room_here", "_law_row_here"] (sp_lwithin K) := by
  have O__law_left := ok__law_left (P := P) (w := w) (base := base) T
  refine T.d__law_within.ok sc__law_within (fun vs H Q E h => ?_) (fun f cdv A outer s H vs Q E hr h => ?_)
  · obtain ⟨a, b, ws, room, r, p, n, rfl, _⟩ := h
    rfl
  · obtain ⟨a, b, ws, room, r, p, n, rfl, hA, hR, hB, ok, fp, okr, hp, hp2, hn1, hn, lr, q⟩ := h
    have okl := left_ok hp room r ok okr _ List.mem_cons_self
    refine ⟨_, ((pss_one (ps_ret (pe_cmpR op_eq (pe_callB (cr_maxI (by rfl)) (by rfl) T.b_max (by decide +kernel) (pa_cons (pe_callO O__law_left (hr.mono (by omega)) (by rfl) (pa_cons (pv 0) (pa_cons (pv 1) (pa_cons (pv 2) pa_nil)))) pa_nil)) pe_int (nomark _))))), ?_⟩
    refine ⟨.int p, rfl, .ref a, rfl, .ref b, rfl, a, b, ws, room, r, p, n, rfl, hA, hR, hB, ok, fp, okr, hp, hp2, hn, lr, fun H1 l s1 e1 => ?_⟩
    refine ⟨l, _, rfl, .inl (.inl e1), by rw [okl.1]; omega, fun m mm hm => ⟨rfl, ?_⟩⟩
    refine q H1 _ s1 ⟨fun e y hy => ?_, fun h => ?_⟩
    · have e : m = 0 := by
        have := of_decide_eq_true e
        injection this
      have := hm y hy
      have := (okl.2 y hy).1
      omega
    · rw [h m mm]
      rfl
def sp_lmade (K : PySem.W.Frag) : Sp := fun vs H Q _ => ∃ (a b : Addr) (ws : List V) (rs : List (List Int)) (fs : List Int) (p : Int) (n : Nat), vs = [.int p, .int (n : Int), .ref a, .ref b] ∧ SqL K H a ws ∧ DpAll K H ws (rs.map rowD) ∧ SqL K H b (fs.map V.int) ∧ rs.length = fs.length ∧ 0 < p ∧ p ≤ 1000 ∧ n ≤ 100 ∧ (∀ r ∈ rs, r.length = n ∧ ∀ x ∈ r, 0 ≤ x ∧ x < 1000) ∧ (∀ f ∈ fs, 0 ≤ f ∧ f ≤ 1000) ∧
  ∀ H' l, Same H H' → H' l = some (.tup ((madeR p (List.replicate n 0) (rs.zip fs)).map V.int)) → Q (.ref l) H'
theorem plus_at {p m : Int} {x y : List Int} {k n : Nat} (hx : x.length = n) (hy : y.length = n) (hk : k < n) : (plusR p x y m).take (k + 1) = (plusR p x y m).take k ++ [(x.getD k 0 + m * y.getD k 0) % p] := by
  have g : (plusR p x y m)[k]? = some ((x.getD k 0 + m * y.getD k 0) % p) := by
    unfold plusR
    rw [List.getElem?_zipWith, List.getElem?_eq_getElem (l := x) (by omega), List.getElem?_eq_getElem (l := y) (by omega), gd_lt (r := x) (i := k) (by omega), gd_lt (r := y) (i := k) (by omega)]
  rw [List.take_add_one, g]
  rfl
theorem flat_noughts (k : Nat) : (List.replicate k [V.int 0]).flatten = (List.replicate k (0 : Int)).map V.int := by
  induction k with
  | zero => rfl
  | succ k ih => rw [List.replicate_succ, List.flatten_cons, ih, List.replicate_succ, List.map_cons]; rfl
theorem ok__law_made_of (T : Top K mg) : Ok P w K mg base 1 "_law_made_of" ["_law_p", "_law_n", "_law_rows_here", "_law_factors"] (sp_lmade K) := by
  refine T.d__law_made_of.ok sc__law_made_of (fun vs H Q E h => ?_) (fun f cdv A outer s H vs Q E hr h => ?_)
  · obtain ⟨a, b, ws, rs, fs, p, n, rfl, _⟩ := h
    rfl
  · obtain ⟨a, b, ws, rs, fs, p, n, rfl, hA, hR, hB, hl, hp, hp2, hn, hln, hf, q⟩ := h
    have lw := rows_len hR
    refine ⟨_, ((pss_cons (ps_set (i := 4) sc__law_made_of.nd rfl (.inr rfl) (pe_op op_rep (pe_lst (pa_cons pe_int pa_nil)) (pv 1)))
      (pss_cons (ps_for PassesOwn.never (by rfl) (RZ.pi_zipA (by rfl) T.b_zip (pa_cons (pv 2) (pa_cons (pv 3) pa_nil))) (pg_tup (by rfl) (pgs_cons (pg_name (i := 5) sc__law_made_of.nd rfl (.inr rfl)) (pgs_cons (pg_name (i := 6) sc__law_made_of.nd rfl (.inr rfl)) pgs_nil)))
        (pss_one (ps_set (i := 4) sc__law_made_of.nd rfl (.inr rfl) (pe_lc (own := [("_law_k", 7)]) (g := gName 7) (by rfl) sc__law_made_of.nd (pi_range1 (by rfl) T.b_range (pa_cons (pv 1) pa_nil)) (blkOk_by (own := [("_law_k", 7)]) (N := N__law_made_of) (sc := defScope s__law_made_of) (by decide +kernel)) (fun _ _ _ _ _ => (pg_name (i := 7) sc__law_made_of.nd rfl (.inl rfl))) (fun _ _ _ _ _ => pts_nil) (fun _ _ _ _ _ => (pe_op op_mod (pe_op op_add (pe_ix (show IxR _ (rIxL K) from ix_list) (pv 4) (pv 7) (fun _ _ => rfl)) (pe_op op_mul (pv 6) (pe_ix (show IxR _ (rIxT K) from ix_tup) (pv 5) (pv 7) (fun _ _ => rfl)))) (pv 0)))))))
      (pss_one (ps_ret (pe_callTy call_tuple_of (by rfl) T.b_tuple (by decide +kernel) (pa_cons (pv 4) pa_nil))))))), ?_⟩
    refine ⟨sz1000 (by decide : (1 : Nat) ≤ 1000), fun z nz => ?_⟩
    generalize h1 : upd H z _ = H1
    obtain ⟨s1, e1⟩ := new_of h1 nz
    refine ⟨.int n, rfl, z, n, _, rfl, rfl, e1, by omega, by omega, Nat.le_of_lt (small1000 (by show 1 * ((n : Int)).toNat ≤ 1000; omega)), fun y ny => ?_⟩
    rw [show ((n : Int)).toNat = n from rfl, flat_noughts]
    generalize h2 : upd H1 y _ = H2
    obtain ⟨s2, e2⟩ := new_of h2 ny
    have s12 := s1.trans s2
    have hR2 := dpAll_same s12 _ _ hR
    refine ⟨.ref a, rfl, .ref b, rfl, a, b, _, _, rfl, .inl ⟨sql_same3 s12 hA, sql_same3 s12 hB, ?_⟩⟩
    refine RZ.for_zipL (K := K) (a := a) (b := b) (xs := ws) (ys := fs.map V.int) (by rw [List.length_map]; omega) (fun i σ H' => Same H2 H' ∧ ∃ (l : Addr) (y5 y6 y7 : Option V), H' l = some (.lst ((madeR p (List.replicate n 0) ((rs.zip fs).take i)).map V.int)) ∧ σ = [some (.int p), some (.int (n : Int)), some (.ref a), some (.ref b), some (.ref l), y5, y6, y7]) ⟨Same.refl H2, y, none, none, none, e2, rfl⟩ (fun i σ H' hW => ⟨sql_same3 (s12.trans hW.1) hA, sql_same3 (s12.trans hW.1) hB⟩) (fun i x f1 Ta σ H3 g1 g2 hW nT => ?_) (fun σ H' hW => ?_)
    · obtain ⟨sm, l, y5, y6, y7, el, rfl⟩ := hW
      obtain ⟨c, r, rfl, gr, mr, hc⟩ := dpAll_row hR2 g1
      rw [List.getElem?_map] at g2
      obtain ⟨f, hfi, rfl⟩ := Option.map_eq_some_iff.mp g2
      have mf := hf f (List.mem_of_getElem? hfi)
      have sT : Same H3 (upd H3 Ta (.tup [.ref c, .int f])) := same_upd nT
      have hr1 := hln r mr
      have gz : (rs.zip fs)[i]? = some (r, f) := by
        rw [List.getElem?_zip_eq_some]
        exact ⟨gr, hfi⟩
      have ml : (madeR p (List.replicate n 0) ((rs.zip fs).take i)).length = n := made_len p n _ _ List.length_replicate fun x hx => (hln x.1 (List.of_mem_zip (List.mem_of_mem_take hx)).1).1
      have mb : ∀ x ∈ madeR p (List.replicate n 0) ((rs.zip fs).take i), 0 ≤ x ∧ x < p := made_bd hp _ _ (row_noughts' hp n).2
      have mt := made_take (p := p) (z := List.replicate n 0) gz
      generalize madeR p (List.replicate n 0) ((rs.zip fs).take i) = cur at el ml mb mt
      refine ⟨Ta, [.ref c, .int f], rfl, .inl (.inl upd_same), rfl, .ref c, [.int f], rfl, .int f, [], rfl, rfl, ?_⟩
      generalize hg4 : upd H3 Ta _ = H4 at sT
      have hc4 := Same.tup (sm.trans sT) hc
      have el4 := sT _ _ el
      refine ⟨.int n, rfl, n, rfl, by omega, by omega, fun D nD => ?_⟩
      rw [show ((n : Int)).toNat = n from rfl]
      refine lc_range (lo := 0) (n := n) (fun k H5 => Same H4 H5 ∧ H5 D = some (.lst (((plusR p cur r f).take k).map V.int))) ⟨same_upd nD, upd_same⟩ (fun k H5 hk hP => ?_) (fun H5 hP => ?_)
      · obtain ⟨s5, eD⟩ := hP
        have b1 := getD_lt hp mb k
        have b2 := getD_lt (by decide) hr1.2 k
        have b3 : 0 ≤ f * r.getD k 0 := Int.mul_nonneg mf.1 b2.1
        have b4 : f * r.getD k 0 ≤ 1000 * 1000 := Int.mul_le_mul mf.2 (by omega) b2.1 (by decide)
        refine ⟨rfl, .ref l, rfl, .int (0 + k), rfl, l, _, _, _, rfl, rfl, .inl (.inl (s5 _ _ el4)), by rw [show (0 : Int) + (k : Int) = (k : Int) by omega]; exact at_row (by omega), .int f, rfl, .ref c, rfl, .int (0 + k), rfl, c, _, _, _, rfl, rfl, Same.tup s5 hc4, by rw [show (0 : Int) + (k : Int) = (k : Int) by omega]; exact at_row (by omega), _, _, rfl, rfl, .inl ⟨by omega, by omega⟩, _, _, rfl, rfl, .int p, rfl, _, p, rfl, rfl, hp, _, eD, ?_, same_mut s5 nD, ?_⟩
        · rw [List.length_map, List.length_take]
          exact Nat.lt_of_le_of_lt (Nat.min_le_left _ _) (small1000 (by omega))
        · rw [upd_same, plus_at ml hr1.1 (by omega), List.map_append]
          rfl
      · obtain ⟨s5, eD⟩ := hP
        rw [List.take_of_length_le (by unfold plusR; rw [List.length_zipWith]; omega)] at eD
        refine ⟨(sm.trans sT).trans s5, D, _, _, _, ?_, rfl⟩
        rw [mt]
        exact eD
    · obtain ⟨sm, l, y5, y6, y7, el, rfl⟩ := hW
      rw [List.take_of_length_le (by rw [List.length_zip]; omega)] at el
      refine ⟨.ref l, rfl, l, _, rfl, .inl ⟨.inl (.inl el), fun o no => ?_⟩⟩
      generalize h5 : upd H' o _ = H5
      obtain ⟨s5, e5⟩ := new_of h5 no
      exact q H5 o ((s12.trans sm).trans s5) e5
/-- drawn rests, one for each item of a list or tuple -/
theorem lc_drawnW {J : It} {G : Hp → Prop} {vs : List V} {d c : Addr} {t p : Int} {σ : L2.St} {H : Hp} {Qd : Addr → Hp → Prop} {i : Nat} {sl : List Nat} {te : TE} (w : Walk J vs.length G (YAt vs)) (D0 : Deck H d c t) (hG : ∀ H', Kept d c H H' → G H') (hn : vs.length ≤ 100) (hw : ∀ x : Option V, wipe ((wipe σ sl).set i x) sl = wipe σ sl)
    (hte : ∀ (v : V) (k : Nat) (t' : Int) (H' : Hp) (Q' : VK), Kept d c H H' → Deck H' d c t' → t' ≤ t + 2 * k → k < vs.length → (∀ H'' t'' x, Kept d c H' H'' → Deck H'' d c t'' → t'' ≤ t' + 2 → 0 ≤ x → x < p → Q' (.int x) H'') → te ((wipe σ sl).set i (some v)) H' Q')
    (hd : ∀ (D : Addr) (H' : Hp) (t' : Int) (r : List Int), Kept d c H H' → Deck H' d c t' → t' ≤ t + 2 * vs.length → H D = none → H' D = some (.lst (r.map V.int)) → r.length = vs.length → (∀ x ∈ r, 0 ≤ x ∧ x < p) → Qd D H') :
    LcGoal J (gName i) tYes te sl σ H Qd := by
  intro D nD
  have bD := D0.fresh nD
  refine lc_it w (fun k H' => Kept d c H H' ∧ ∃ (t' : Int) (r : List Int), Deck H' d c t' ∧ t' ≤ t + 2 * k ∧ H' D = some (.lst (r.map V.int)) ∧ r.length = k ∧ ∀ x ∈ r, 0 ≤ x ∧ x < p) ⟨Kept.of (same_upd nD), t, [], D0.same (same_upd nD), by omega, upd_same, rfl, fun x hx => (nomatch hx)⟩ (fun k H' _ hP => hG H' hP.1) (fun k v H1 H2 hk hP hY => ?_) (fun H' hW => ?_)
  · obtain ⟨rfl, _⟩ := hY
    obtain ⟨k', t', r, D', ht', eB, ln, ro⟩ := hP
    refine ⟨hw _, hte v k t' _ _ k' D' ht' hk fun H1 t1 x k1 D1 ht1 x0 x1 => ?_⟩
    refine ⟨r.map V.int, k1 _ _ eB (fun z => bD (.inl z)) (fun z => bD (.inr z)), by rw [List.length_map]; exact small1000 (by omega), (k'.trans k1).mut nD, t1, r ++ [x], D1.mut bD, by omega, ?_, by rw [List.length_append, ln]; rfl, fun y hy => ?_⟩
    · rw [upd_same, List.map_append]
      rfl
    · rcases List.mem_append.mp hy with h | h
      · exact ro y h
      · have : y = x := by simpa using h
        rw [this]
        exact ⟨x0, x1⟩
  · obtain ⟨k', t', r, D', ht', eB, ln, ro⟩ := hW
    exact hd D H' t' r k' D' ht' nD eB ln ro
theorem some_of {c : Prop} [Decidable c] : ∃ w : Int, (if decide c then (1 : Int) else 0) = w ∧ (w = 0 ∨ w = 1) := by
  by_cases h : c
  · rw [decide_eq_true h]
    exact ⟨1, rfl, .inr rfl⟩
  · rw [decide_eq_false h]
    exact ⟨0, rfl, .inl rfl⟩
def sp_crows (K : PySem.W.Frag) : Sp := fun vs H Q _ => ∃ (d c o : Addr) (t p : Int) (n : Nat) (ws : List V) (rs : List (List Int)), vs = [.ref d, .int p, .int (n : Int), .ref o] ∧ Deck H d c t ∧ t ≤ 800000 ∧ 2 ≤ p ∧ p ≤ 1000 ∧ n ≤ 100 ∧ H o = some (.lst ws) ∧ DpAll K H ws (rs.map rowD) ∧ ¬ Bad d c o ∧ RowsOk p n rs ∧ 1 ≤ rs.length ∧ rs.length ≤ 10 ∧
  ∀ H' l ws' gs t', Kept d c H H' → Deck H' d c t' → t' ≤ t + 100 → H l = none → H' l = some (.lst ws') → DpAll K H' ws' (gs.map rowD) → RowsOk p n gs → gs.length ≤ 3 → Q (.ref l) H'
theorem ok__law_rows (T : Top K mg) : Ok P w K mg base 2 "_law_rows" ["_law_deck_here", "_law_p", "_law_n", "_law_pool"] (sp_crows K) := by
  have O__law_draw := ok__law_draw (P := P) (w := w) (base := base) T
  have O__law_made_of := ok__law_made_of (P := P) (w := w) (base := base) T
  refine T.d__law_rows.ok sc__law_rows (fun vs H Q E h => ?_) (fun f cdv A outer s H vs Q E hr h => ?_)
  · obtain ⟨d, c, o, t, p, n, ws, rs, rfl, _⟩ := h
    rfl
  · obtain ⟨d, c, o, t, p, n, ws, rs, rfl, D0, ht, hp1, hp2, hn, eo, dr, bo, okr, lr1, lr2, q⟩ := h
    have lw := rows_len dr
    refine ⟨_, ((pss_cons (ps_set (i := 4) sc__law_rows.nd rfl (.inl rfl) (pe_lst pa_nil))
      (pss_cons (ps_for PassesOwn.never (by rfl) (pi_range1 (by rfl) T.b_range (pa_cons (pe_callO O__law_draw (hr.mono (by omega)) (by rfl) (pa_cons (pv 0) (pa_cons pe_int pa_nil))) pa_nil)) (pg_name (i := 5) sc__law_rows.nd rfl (.inl rfl))
        (pss_cons (ps_setLc (i := 7) (own := [("_law_row_here", 6)]) (g := gName 6) (by rfl) sc__law_rows.nd rfl rfl (sw_true rfl rfl rfl (by decide +kernel)) (pi_list (pv 3)) (blkOk_by (own := [("_law_row_here", 6)]) (N := N__law_rows) (sc := defScope s__law_rows) (by decide +kernel)) (fun _ _ _ _ _ => (pg_name (i := 6) sc__law_rows.nd rfl (.inl rfl))) (fun _ _ _ _ _ => pts_nil) (fun _ _ _ _ _ => (pe_op op_mul (pe_callO O__law_draw (hr.mono (by omega)) (by rfl) (pa_cons (pv 0) (pa_cons (pv 1) pa_nil))) (pe_callTy call_int1 (by rfl) T.b_int (by decide +kernel) (pa_cons (pe_cmpR op_eq (pe_callO O__law_draw (hr.mono (by omega)) (by rfl) (pa_cons (pv 0) (pa_cons pe_int pa_nil))) pe_int (nomark _)) pa_nil)))))
        (pss_cons (ps_set (i := 8) sc__law_rows.nd rfl (.inl rfl) (pe_callO O__law_draw (hr.mono (by omega)) (by rfl) (pa_cons (pv 0) (pa_cons (pe_callB call_len_seq (by rfl) T.b_len (by decide +kernel) (pa_cons (pv 3) pa_nil)) pa_nil))))
        (pss_cons (ps_asg (pe_op op_add pe_int (pe_callO O__law_draw (hr.mono (by omega)) (by rfl) (pa_cons (pv 0) (pa_cons (pe_op op_sub (pv 1) pe_int) pa_nil)))) (pg_sub (pv 7) (pv 8) set_list))
        (pss_one (ps_expr (pe_bm PySem.F.plainAttrs_list PySem.F.slot_list_append PySem.F.type_list_append mt_append (pv 4) (pa_cons (pe_callO O__law_made_of (hr.mono (by omega)) (by rfl) (pa_cons (pv 1) (pa_cons (pv 2) (pa_cons (pv 3) (pa_cons (pv 7) pa_nil))))) pa_nil))))))))
      (pss_one (ps_ret (pv 4)))))), ?_⟩
    refine ⟨Nat.zero_le _, fun f0 nf => ?_⟩
    generalize h1 : upd H f0 _ = H1
    obtain ⟨s1, e1⟩ := new_of h1 nf
    have D1 := D0.same s1
    have b0 := D0.fresh nf
    refine ⟨.ref d, rfl, d, c, t, 4, rfl, D1, by omega, by decide, by decide, fun H2 m k2 D2 m0 m1 => ?_⟩
    have e2 := k2 _ _ e1 (fun z => b0 (.inl z)) (fun z => b0 (.inr z))
    refine ⟨m, rfl, by omega, by omega, for_range (lo := 0) (n := m.toNat) (fun k σ H' => Kept d c H H' ∧ ∃ (t' : Int) (ws' : List V) (gs : List (List Int)) (y5 y6 y7 y8 : Option V), Deck H' d c t' ∧ t' ≤ t + 1 + 25 * k ∧ H' f0 = some (.lst ws') ∧ DpAll K H' ws' (gs.map rowD) ∧ RowsOk p n gs ∧ gs.length = k ∧ σ = [some (.ref d), some (.int p), some (.int (n : Int)), some (.ref o), some (.ref f0), y5, y6, y7, y8]) ⟨(Kept.of s1).trans k2, t + 1, [], [], none, none, none, none, D2, by omega, e2, .nil, fun x hx => (nomatch hx), rfl, rfl⟩ (fun k σ H3 hk hW => ?_) (fun σ H3 hW => ?_)⟩
    · obtain ⟨k3, t3, ws', gs, y5, y6, y7, y8, D3, ht3, e3, dg, okg, lg, rfl⟩ := hW
      have eo3 := k3 _ _ eo (fun z => bo (.inl z)) (fun z => bo (.inr z))
      have dr3 := dpAll_tk (Tk.kept D0 k3) _ _ (noL_rows rs) dr
      have lwg := rows_len dg
      refine ⟨.ref o, rfl, o, rfl, ⟨_, .inl (.inl eo3)⟩, lc_drawnW (p := p) (t := t3) (walk_list (K := K) (a := o) (xs := ws)) D3 (fun H' k' => .inl (.inl (k' _ _ eo3 (fun z => bo (.inl z)) (fun z => bo (.inr z))))) (by omega) (fun _ => rfl) (fun v j t' H' Q' kH D' ht' hj hQ => ?_) (fun L H4 t4 fs k4 D4 ht4 nL eL lf bf => ?_)⟩
      · refine ⟨.ref d, rfl, .int p, rfl, d, c, t', p, rfl, D', by omega, by omega, by omega, fun Ha x ka Da x0 x1 => ?_⟩
        refine ⟨.ref d, rfl, d, c, _, 3, rfl, Da, by omega, by decide, by decide, fun Hb y kb Db y0 y1 => ⟨rfl, .inr ⟨_, rfl, ?_⟩⟩⟩
        obtain ⟨w, ew, hw⟩ := some_of (c := V.int y = V.int 0)
        rw [ew]
        refine ⟨x, w, rfl, rfl, .inl ⟨by omega, by omega⟩, hQ Hb _ (x * w) (ka.trans kb) Db (by omega) (Int.mul_nonneg x0 (by omega)) ?_⟩
        rcases hw with e | e
        · rw [e]; omega
        · rw [e]; omega
      have bL := D3.fresh nL
      have eo4 := k4 _ _ eo3 (fun z => bo (.inl z)) (fun z => bo (.inr z))
      refine ⟨.ref d, rfl, .ref o, rfl, o, _, rfl, .inl (.inl (.inl eo4)), d, c, t4, _, rfl, D4, by omega, by omega, by omega, fun H5 sp k5 D5 p0 p1 => ?_⟩
      have eL5 := k5 _ _ eL (fun z => bL (.inl z)) (fun z => bL (.inr z))
      refine ⟨.ref d, rfl, .int p, rfl, p, 1, rfl, rfl, d, c, _, p - 1, rfl, D5, by omega, by omega, by omega, fun H6 z k6 D6 z0 z1 => ?_⟩
      have eL6 := k6 _ _ eL5 (fun z => bL (.inl z)) (fun z => bL (.inr z))
      refine ⟨1, z, rfl, rfl, .ref L, rfl, .int sp, rfl, L, _, sp, _, rfl, rfl, eL6, ix_nat p0 (by rw [List.length_map]; omega), ?_⟩
      rw [← List.map_set (f := V.int)]
      have k36 := k4.trans (k5.trans k6)
      have bfs : ∀ x ∈ fs.set sp.toNat (1 + z), 0 ≤ x ∧ x ≤ 1000 := fun x hx => by
        rcases List.mem_or_eq_of_mem_set hx with h | h
        · have := bf x h; omega
        · omega
      have lfs : (fs.set sp.toNat (1 + z)).length = rs.length := by
        rw [List.length_set]
        omega
      generalize fs.set sp.toNat (1 + z) = gfs at bfs lfs
      have k37 := k36.mut (o := .lst (gfs.map V.int)) nL
      have D7 := D6.mut (B := L) (o := .lst (gfs.map V.int)) bL
      have eL7 : upd H6 L (.lst (gfs.map V.int)) L = some (.lst (gfs.map V.int)) := upd_same
      generalize upd H6 L (.lst (gfs.map V.int)) = H7 at k37 D7 eL7
      have e7 := k37 _ _ e3 (fun z => b0 (.inl z)) (fun z => b0 (.inr z))
      have eo7 := k37 _ _ eo3 (fun z => bo (.inl z)) (fun z => bo (.inr z))
      have dr7 := dpAll_tk (Tk.kept D3 k37) _ _ (noL_rows rs) dr3
      have dg7 := dpAll_tk (Tk.kept D3 k37) _ _ (noL_rows gs) dg
      refine ⟨.ref f0, rfl, .inl ⟨rfl, _, .inl (.inl e7)⟩, .int p, rfl, .int n, rfl, .ref o, rfl, .ref L, rfl, o, L, ws, rs, gfs, p, n, rfl, .inl (.inl eo7), dr7, .inl (.inl eL7), lfs.symm, by omega, hp2, hn, fun r hr => ⟨(okr r hr).1, fun x hx => by have := (okr r hr).2 x hx; omega⟩, bfs, fun H8 l s8 e8 => ?_⟩
      have e78 := s8 _ _ e7
      have tk : Tk H8 (upd H8 f0 (.lst (ws' ++ [.ref l]))) := (Tk.refl _).mut e78
      have nlf : l ≠ f0 := fun z => by subst z; rw [e8] at e78; cases e78
      refine ⟨f0, _, _, rfl, rfl, e78, small1000 (by omega), (k3.trans (k37.trans (Kept.of s8))).mut nf, _, ws' ++ [.ref l], gs ++ [madeR p (List.replicate n 0) (rs.zip gfs)], _, _, _, _, (D7.same s8).mut b0, by omega, upd_same, ?_, fun r hr => ?_, by rw [List.length_append, lg]; rfl, rfl⟩
      · rw [List.map_append]
        refine dpAll_append (dpAll_tk ((Tk.of s8).trans tk) _ _ (noL_rows gs) dg7) (.cons (.tup (.inl (.inl ?_)) (dpAll_ints _)) .nil)
        rw [upd_ne nlf]
        exact e8
      · rcases List.mem_append.mp hr with hr | hr
        · exact okg r hr
        · rw [List.mem_singleton.mp hr]
          exact ⟨made_len p n _ _ List.length_replicate fun x hx => (okr x.1 (List.of_mem_zip hx).1).1, made_bd (by omega) _ _ (row_noughts' (by omega) n).2⟩
    · obtain ⟨k3, t3, ws', gs, y5, y6, y7, y8, D3, ht3, e3, dg, okg, lg, rfl⟩ := hW
      exact ⟨.ref f0, rfl, q H3 f0 ws' gs t3 k3 D3 (by omega) nf e3 dg okg (by omega)⟩
end
end OC
set_option Elab.async false
set_option linter.all false
set_option maxRecDepth 100000
set_option maxHeartbeats 4000000
namespace OC
open PySem PySem.Spec PyProof.Rows L2
section
variable {P : Program} {w : World} {K : PySem.W.Frag} {mg : Str → Option Value} {base : Heap}
theorem fld_c {p : Int} (h : p ∈ ([5, 5, 7, 11, 13, 31, 101] : List Int)) : Fld p ∧ 5 ≤ p ∧ p ≤ 101 := by
  simp only [List.mem_cons, List.not_mem_nil, or_false] at h
  rcases h with rfl | rfl | rfl | rfl | rfl | rfl | rfl
  · exact ⟨fld_of (p := 5) (by decide +kernel), by decide, by decide⟩
  · exact ⟨fld_of (p := 5) (by decide +kernel), by decide, by decide⟩
  · exact ⟨fld_of (p := 7) (by decide +kernel), by decide, by decide⟩
  · exact ⟨fld_of (p := 11) (by decide +kernel), by decide, by decide⟩
  · exact ⟨fld_of (p := 13) (by decide +kernel), by decide, by decide⟩
  · exact ⟨fld_of (p := 31) (by decide +kernel), by decide, by decide⟩
  · exact ⟨fld_of (p := 101) (by decide +kernel), by decide, by decide⟩
def sp_cstand (K : PySem.W.Frag) : Sp := fun vs H Q _ => ∃ (d c : Addr) (t u wd : Int), vs = [.ref d, .int u, .int wd] ∧ Deck H d c t ∧ t ≤ 700000 ∧ 2 ≤ u ∧ u ≤ 9 ∧ 1 ≤ wd ∧ wd ≤ 8 ∧
  ∀ H' a t' p (n : Nat) kn hs, Kept d c H H' → Deck H' d c t' → t' ≤ t + 3000 → StandAt K H' a p n kn hs → Stand5 p n kn hs → p ≤ 101 → (n : Int) ≤ wd → (hs.length : Int) ≤ u → Q (.ref a) H'
theorem ok__law_stand (T : Top K mg) : Ok P w K mg base 3 "_law_stand" ["_law_deck_here", "_law_limit", "_law_wide"] (sp_cstand K) := by
  have O__law_draw := ok__law_draw (P := P) (w := w) (base := base) T
  have O__law_names := ok__law_names (P := P) (w := w) (base := base) T
  have O__law_row := ok__law_row (P := P) (w := w) (base := base) T
  have O__law_rows := ok__law_rows (P := P) (w := w) (base := base) T
  have O__law_plain := ok__law_plain (P := P) (w := w) (base := base) T
  refine T.d__law_stand.ok sc__law_stand (fun vs H Q E h => ?_) (fun f cdv A outer s H vs Q E hr h => ?_)
  · obtain ⟨d, c, t, u, wd, rfl, _⟩ := h
    rfl
  · obtain ⟨d, c, t, u, wd, rfl, D0, ht, hu1, hu2, hw1, hw2, q⟩ := h
    refine ⟨_, ((pss_cons (ps_set (i := 3) sc__law_stand.nd rfl (.inr rfl) (pe_ix ix_list (pe_lst (pa_cons pe_int (pa_cons pe_int (pa_cons pe_int (pa_cons pe_int (pa_cons pe_int (pa_cons pe_int (pa_cons pe_int pa_nil)))))))) (pe_callO O__law_draw (hr.mono (by omega)) (by rfl) (pa_cons (pv 0) (pa_cons pe_int pa_nil))) (fun _ _ => rfl)))
      (pss_cons (ps_set (i := 4) sc__law_stand.nd rfl (.inr rfl) (pe_op op_add pe_int (pe_callO O__law_draw (hr.mono (by omega)) (by rfl) (pa_cons (pv 0) (pa_cons (pv 2) pa_nil)))))
      (pss_cons (ps_setLc (i := 6) (own := [("_law_k", 5)]) (g := gName 5) (by rfl) sc__law_stand.nd rfl rfl (sw_true rfl rfl rfl (by decide +kernel)) (pi_range1 (by rfl) T.b_range (pa_cons (pe_op op_add pe_int (pe_callO O__law_draw (hr.mono (by omega)) (by rfl) (pa_cons (pv 0) (pa_cons pe_int pa_nil)))) pa_nil)) (blkOk_by (own := [("_law_k", 5)]) (N := N__law_stand) (sc := defScope s__law_stand) (by decide +kernel)) (fun _ _ _ _ _ => (pg_name (i := 5) sc__law_stand.nd rfl (.inl rfl))) (fun _ _ _ _ _ => pts_nil) (fun _ _ _ _ _ => (pe_callO O__law_row (hr.mono (by omega)) (by rfl) (pa_cons (pv 0) (pa_cons (pv 3) (pa_cons (pv 4) pa_nil))))))
      (pss_cons (ps_set (i := 7) sc__law_stand.nd rfl (.inl rfl) (pe_callO O__law_plain (hr.mono (by omega)) (by rfl) (pa_cons (pv 3) (pa_cons (pe_slice sl_list (pe_callO O__law_rows (hr.mono (by omega)) (by rfl) (pa_cons (pv 0) (pa_cons (pv 3) (pa_cons (pv 4) (pa_cons (pv 6) pa_nil))))) po_none (po_some (pe_ix ix_list (pe_lst (pa_cons pe_int (pa_cons pe_int (pa_cons pe_int (pa_cons pe_int pa_nil))))) (pe_callO O__law_draw (hr.mono (by omega)) (by rfl) (pa_cons (pv 0) (pa_cons pe_int pa_nil))) (fun _ _ => rfl)))) pa_nil))))
      (pss_cons (ps_set (i := 8) sc__law_stand.nd rfl (.inl rfl) (pe_lst pa_nil))
      (pss_cons (ps_for PassesOwn.never (by rfl) (pi_list (pe_callO O__law_names (hr.mono (by omega)) (by rfl) (pa_cons (pv 0) (pa_cons (pe_op op_add pe_int (pe_callO O__law_draw (hr.mono (by omega)) (by rfl) (pa_cons (pv 0) (pa_cons (pe_op op_sub (pv 1) pe_int) pa_nil)))) pa_nil)))) (pg_name (i := 9) sc__law_stand.nd rfl (.inl rfl))
        (pss_one (ps_expr (pe_bm PySem.F.plainAttrs_list PySem.F.slot_list_append PySem.F.type_list_append mt_append (pv 8) (pa_cons (pe_tup (pa_cons (pv 9) (pa_cons (pe_callO O__law_plain (hr.mono (by omega)) (by rfl) (pa_cons (pv 3) (pa_cons (pe_op op_cat (pe_callTy call_list_of (by rfl) T.b_list (by decide +kernel) (pa_cons (pv 7) pa_nil)) (pe_callO O__law_rows (hr.mono (by omega)) (by rfl) (pa_cons (pv 0) (pa_cons (pv 3) (pa_cons (pv 4) (pa_cons (pv 6) pa_nil)))))) pa_nil))) pa_nil))) pa_nil)))))
      (pss_one (ps_ret (pe_tup (pa_cons (pv 3) (pa_cons (pv 4) (pa_cons (pv 7) (pa_cons (pe_callTy call_tuple_F (by rfl) T.b_tuple (by decide +kernel) (pa_cons (pv 8) pa_nil)) pa_nil)))))))))))))), ?_⟩
    refine ⟨by decide +kernel, fun l0 n0 => ?_⟩
    dsimp only
    generalize h1 : upd H l0 _ = H1
    obtain ⟨s1, e1⟩ := new_of h1 n0
    have D1 := D0.same s1
    have b0 := D0.fresh n0
    refine ⟨.ref d, rfl, d, c, t, 7, rfl, D1, by omega, by decide, by decide, fun H2 z2 k2 D2 a0 a1 => ?_⟩
    have el0 := k2 _ _ e1 (fun z => b0 (.inl z)) (fun z => b0 (.inr z))
    obtain ⟨p, mp, _, hp⟩ := at_int (xs := [5, 5, 7, 11, 13, 31, 101]) a0 a1
    obtain ⟨F, p5, p101⟩ := fld_c mp
    refine ⟨l0, _, z2, .int p, rfl, rfl, .inl (.inl el0), hp, ?_⟩
    refine ⟨.ref d, rfl, .int wd, rfl, d, c, _, wd, rfl, D2, by omega, by omega, by omega, fun H3 n' k3 D3 c0 c1 => ?_⟩
    obtain ⟨n, hn⟩ : ∃ n : Nat, 1 + n' = (n : Int) := ⟨(1 + n').toNat, by omega⟩
    have k03 : Kept d c H H3 := (Kept.of s1).trans (k2.trans k3)
    have hn1 : 1 ≤ n := by omega
    have hn8 : n ≤ 8 := by omega
    refine ⟨1, n', rfl, rfl, ?_⟩
    dsimp only
    rw [hn]
    refine ⟨.ref d, rfl, d, c, _, 5, rfl, D3, by omega, by decide, by decide, fun H4 m' k4 D4 m0 m1 => ?_⟩
    refine ⟨1, m', rfl, rfl, 1 + m', rfl, by omega, by omega, ?_⟩
    have rw3 : ∀ (X : XK) (t' : Int) (H' : Hp) (Q' : VK), Deck H' d c t' → t' ≤ t + 900 → (∀ H'' t'' a r, Kept d c H' H'' → Deck H'' d c t'' → t'' ≤ t' + 20 → H'' a = some (.tup (r.map V.int)) → RowsOk p n [r] → Q' (.ref a) H'') → sp_row3 [.ref d, .int p, .int (n : Int)] H' Q' X := by
      intro X t' H' Q' D' ht' hQ
      exact ⟨d, c, t', p, n, rfl, D', by omega, by omega, by omega, by omega, by omega, fun H'' a r t'' k'' D'' ht'' na ea ok => hQ H'' t'' a r k'' D'' (by omega) ea ok⟩
    refine lc_rows3 (K := K) (p := p) (n := n) (t := t + 1 + 1 + 1) D4 (by omega) (fun _ => rfl) (fun x k t' H' Q' D' ht' hk hQ => ?_) (fun L H5 t5 ws5 pool k5 D5 ht5 nL eL dL lnL roL => ?_)
    · exact ⟨.ref d, rfl, .int p, rfl, .int n, rfl, rw3 E0 t' H' Q' D' (by omega) hQ⟩
    have bL := D4.fresh nL
    have k05 := k03.trans (k4.trans k5)
    have lws5 := rows_len dL
    refine ⟨.int p, rfl, .ref d, rfl, .int p, rfl, .int n, rfl, .ref L, rfl, d, c, L, t5, p, n, ws5, pool, rfl, D5, by omega, by omega, by omega, by omega, eL, dL, bL, roL, by omega, by omega, fun H6 l6 ws6 gs t6 k6 D6 ht6 n6 e6 d6 ok6 l6' => ?_⟩
    have b6 := D5.fresh n6
    refine ⟨by decide +kernel, fun l7 n7 => ?_⟩
    generalize h7 : upd H6 l7 _ = H7
    obtain ⟨s7, e7⟩ := new_of h7 n7
    have D7 := D6.same s7
    have b7 := D6.fresh n7
    refine ⟨.ref d, rfl, d, c, t6, 4, rfl, D7, by omega, by decide, by decide, fun H8 z8 k8 D8 g0 g1 => ?_⟩
    have el7 := k8 _ _ e7 (fun z => b7 (.inl z)) (fun z => b7 (.inr z))
    obtain ⟨hl, mhl, _, hhl⟩ := at_int (xs := [0, 0, 1, 2]) g0 g1
    have hl2 : 0 ≤ hl ∧ hl ≤ 2 := by
      have : ∀ z ∈ ([0, 0, 1, 2] : List Int), 0 ≤ z ∧ z ≤ 2 := by decide
      exact this hl mhl
    have k68 : Kept d c H6 H8 := (Kept.of s7).trans k8
    have e68 := k68 _ _ e6 (fun z => b6 (.inl z)) (fun z => b6 (.inr z))
    refine ⟨l7, _, z8, .int hl, rfl, rfl, .inl (.inl el7), hhl, hl, rfl, l6, _, rfl, .inl (.inl e68), fun o9 n9 => ?_⟩
    rw [cut_upto hl2.1]
    generalize h9 : upd H8 o9 _ = H9
    obtain ⟨s9, e9⟩ := new_of h9 n9
    have D9 := D8.same s9
    have d9 : DpAll K H9 (ws6.take hl.toNat) ((gs.take hl.toNat).map rowD) := by
      rw [List.map_take]
      exact dpAll_take _ (dpAll_same s9 _ _ (dpAll_tk (Tk.kept D6 k68) _ _ (noL_rows gs) d6))
    have ok9 : RowsOk p n (gs.take hl.toNat) := fun r hr => ok6 r (List.mem_of_mem_take hr)
    refine ⟨o9, _, gs.take hl.toNat, p, n, rfl, .inl (.inl (.inl e9)), d9, ok9, F, by omega, hn1, by omega, by rw [List.length_take]; omega, fun Ha lk sa rk => ?_⟩
    have pk := PFR.of_plain F ok9
    generalize plainR p n (gs.take hl.toNat) = kn at rk pk
    obtain ⟨wk, hk, dk⟩ := rk
    have lkn := PFR.len F pk
    have lwk := rows_len dk
    have Da := D9.same sa
    have k5a : Kept d c H5 Ha := k6.trans (k68.trans (Kept.of (s9.trans sa)))
    have eLa := k5a _ _ eL (fun z => bL (.inl z)) (fun z => bL (.inr z))
    have dLa := dpAll_tk (Tk.kept D5 k5a) _ _ (noL_rows pool) dL
    have k0a := k05.trans k5a
    clear el0 e1 hp el7 e7 e68 e9 d9 e6 d6
    refine ⟨Nat.zero_le _, fun f0 nf => ?_⟩
    generalize hb : upd Ha f0 _ = Hb
    obtain ⟨sb, eb⟩ := new_of hb nf
    have Db := Da.same sb
    have bf := Da.fresh nf
    refine ⟨.ref d, rfl, .ref d, rfl, .int u, rfl, u, 1, rfl, rfl, d, c, _, u - 1, rfl, Db, by omega, by omega, by omega, fun Hc m'' kc Dc mm0 mm1 => ?_⟩
    refine ⟨2, m'', rfl, rfl, d, c, _, (2 + m'').toNat, by rw [Int.toNat_of_nonneg (by omega)]; rfl, Dc, by omega, by omega, fun Hd ln xs td kd Dd htd nln eln lx so nd nm => ?_⟩
    have bln := Dc.fresh nln
    have kad : Kept d c Ha Hd := (Kept.of sb).trans (kc.trans kd)
    have ebd := (kc.trans kd) _ _ eb (fun z => bf (.inl z)) (fun z => bf (.inr z))
    have lxs : xs.length ≤ 9 := by omega
    refine ⟨ln, rfl, ⟨_, .inl (.inl eln)⟩, for_it (walk_list (K := K) (a := ln) (xs := xs.map V.str)) (fun i σ H' => Kept d c Ha H' ∧ ∃ (t' : Int) (ws : List V) (hs : List (Str × List (List Int))) (y9 : Option V), Deck H' d c t' ∧ t' ≤ td + 110 * i ∧ H' f0 = some (.lst ws) ∧ H' ln = some (.lst (xs.map V.str)) ∧ DpAll K H' ws (hs.map handD) ∧ hs.map Prod.fst = xs.take i ∧ (∀ h ∈ hs, ∃ more, RowsOk p n more ∧ h.2 = plainR p n (kn ++ more)) ∧ σ = [some (.ref d), some (.int u), some (.int wd), some (.int p), some (.int (n : Int)), none, some (.ref L), some (.ref lk), some (.ref f0), y9])
      ⟨kad, td, [], [], none, Dd, by omega, ebd, eln, .nil, rfl, fun h hh => (nomatch hh), rfl⟩ (fun i σ H' _ hW => by obtain ⟨_, _, _, _, _, _, _, _, e, _⟩ := hW; exact .inl (.inl e)) (fun i x σ H' H'' hi hW hY => ?_) (fun σ H' hW => ?_)⟩
    · obtain ⟨rfl, hx⟩ := hY
      obtain ⟨ka, t', ws, hs, y9, D', ht', ef, en, dph, fst, rms, rfl⟩ := hW
      rw [List.getElem?_map] at hx
      obtain ⟨nm1, hnm, rfl⟩ := Option.map_eq_some_iff.mp hx
      rw [List.length_map] at hi
      have hk' := Kept.tup Da ka hk
      have lhs : hs.length = i := by
        have := congrArg List.length fst
        rw [List.length_map, List.length_take] at this
        omega
      have lws := dpAll_len dph
      rw [List.length_map] at lws
      refine ⟨.ref f0, rfl, .inl ⟨rfl, _, .inl (.inl ef)⟩, .str nm1, rfl, .int p, rfl, .ref lk, rfl, lk, _, rfl, .inr hk', fun o1 m1 => ?_⟩
      generalize g1 : upd _ o1 _ = G1
      obtain ⟨t1, f1⟩ := new_of g1 m1
      have E1 := D'.same t1
      have c1' := D'.fresh m1
      have eL1 := t1 _ _ (ka _ _ eLa (fun z => bL (.inl z)) (fun z => bL (.inr z)))
      have dL1 := dpAll_same t1 _ _ (dpAll_tk (Tk.kept Da ka) _ _ (noL_rows pool) dLa)
      refine ⟨.ref d, rfl, .int p, rfl, .int n, rfl, .ref L, rfl, d, c, L, t', p, n, ws5, pool, rfl, E1, by omega, by omega, by omega, by omega, eL1, dL1, bL, roL, by omega, by omega, fun G2 l2 w2 g2 t2 q2 E2 ht2 n2 f2 d2 ok2 l2' => ?_⟩
      have lw2 := rows_len d2
      have f12 := q2 _ _ f1 (fun z => c1' (.inl z)) (fun z => c1' (.inr z))
      refine ⟨o1, l2, _, _, rfl, rfl, f12, f2, Nat.le_of_lt (small1000 (by rw [lwk, lw2]; omega)), fun o3 m3 => ?_⟩
      generalize g3 : upd G2 o3 _ = G3
      obtain ⟨t3, f3⟩ := new_of g3 m3
      have q02 : Kept d c _ G2 := (Kept.of t1).trans q2
      have dk2 := dpAll_tk (Tk.kept D' q02) _ _ (noL_rows kn) (dpAll_tk (Tk.kept Da ka) _ _ (noL_rows kn) dk)
      have ok3 := rowsOk_app pk.1 ok2
      have d3 : DpAll K G3 (wk ++ w2) ((kn ++ g2).map rowD) := by
        rw [List.map_append]
        exact dpAll_append (dpAll_same t3 _ _ dk2) (dpAll_same t3 _ _ d2)
      refine ⟨o3, _, kn ++ g2, p, n, rfl, .inl (.inl (.inl f3)), d3, ok3, F, by omega, hn1, by omega, by rw [List.length_append]; omega, fun G4 lj sj rj => ?_⟩
      refine ⟨Nat.le_of_lt (small1000 (show 2 ≤ 1000 by decide)), fun o15 n15 => ?_⟩
      generalize h15 : upd G4 o15 _ = G5
      obtain ⟨sk, ek⟩ := new_of h15 n15
      have q05 : Kept d c _ G5 := q02.trans (Kept.of (t3.trans (sj.trans sk)))
      have ef5 := q05 _ _ ef (fun z => bf (.inl z)) (fun z => bf (.inr z))
      have en5 := q05 _ _ en (fun z => bln (.inl z)) (fun z => bln (.inr z))
      have tk : Tk G5 (upd G5 f0 (.lst (ws ++ [.ref o15]))) := (Tk.refl _).mut ef5
      have n159 : o15 ≠ f0 := fun z => by subst z; rw [ek] at ef5; cases ef5
      have nlf : ln ≠ f0 := fun z => by
        subst z
        have e1 := (Kept.of (d := d) (c := c) sb) 
        have : Hc ln = some (.lst []) := kc _ _ eb (fun z => bf (.inl z)) (fun z => bf (.inr z))
        rw [this] at nln
        cases nln
      obtain ⟨wr, hr1, hr2⟩ := rj
      refine ⟨f0, _, _, rfl, rfl, ef5, small1000 (by omega), (ka.trans q05).mut nf, t2, ws ++ [.ref o15], hs ++ [(nm1, plainR p n (kn ++ g2))], _, (E2.same (t3.trans (sj.trans sk))).mut bf, by omega, upd_same, by rw [upd_ne nlf]; exact en5, ?_, ?_, ?_, rfl⟩
      · rw [List.map_append]
        refine dpAll_append (dpAll_tk ((Tk.kept D' q05).trans tk) _ _ (noL_hands hs) dph) (.cons (.tup (xs := [.str nm1, .ref lj]) (.inl (.inl ?_)) (.cons (.str nm1) (.cons (.tup (tk _ _ _ (Same.tup sk hr1)) (dpAll_tk ((Tk.of sk).trans tk) _ _ (noL_rows _) hr2)) .nil))) .nil)
        rw [upd_ne n159]
        exact ek
      · rw [List.map_append, fst, List.take_add_one, hnm]
        rfl
      · intro h hh
        rcases List.mem_append.mp hh with hh | hh
        · exact rms h hh
        · rw [List.mem_singleton.mp hh]
          exact ⟨g2, ok2, rfl⟩
    · obtain ⟨ka, t', ws, hs, y9, D', ht', ef, en, dph, fst, rms, rfl⟩ := hW
      rw [List.length_map] at ht' fst
      rw [List.take_of_length_le (Nat.le_refl _)] at fst
      have lhs : hs.length = xs.length := by
        have := congrArg List.length fst
        rw [List.length_map] at this
        exact this
      refine ⟨.int p, rfl, .int n, rfl, .ref lk, rfl, .ref f0, rfl, f0, _, rfl, .inl (.inl ef), fun l o nl od => ?_⟩
      generalize h15 : upd _ l _ = G1
      obtain ⟨sk, ek⟩ := new_of h15 nl
      refine ⟨Nat.le_of_lt (small1000 (show 4 ≤ 1000 by decide)), fun o16 n16 => ?_⟩
      generalize h16 : upd G1 o16 _ = G2
      obtain ⟨sl, el⟩ := new_of h16 n16
      have skl := sk.trans sl
      have hk' := Kept.tup Da ka hk
      have dk' := dpAll_tk (Tk.kept Da ka) _ _ (noL_rows kn) dk
      refine q G2 o16 t' p n kn hs (k0a.trans (ka.trans (Kept.of skl))) (D'.same skl) (by omega) ⟨lk, l, ws, .inl (.inl el), ⟨wk, Same.tup skl hk', dpAll_same skl _ _ dk'⟩, ⟨o, od, sl _ _ ek⟩, dpAll_same skl _ _ dph⟩ ⟨F, by omega, hn1, hn8, pk, fun h hh => ?_, fun h hh r hr => ?_, by omega, by omega, by rw [fst]; exact so, by rw [fst]; exact nd, by rw [fst]; exact nm⟩ p101 (by omega) (by omega)
      · obtain ⟨more, m1, e⟩ := rms h hh
        rw [e]
        exact PFR.of_plain F (rowsOk_app pk.1 m1)
      · obtain ⟨more, m1, e⟩ := rms h hh
        rw [e]
        exact (InR.plain F (rowsOk_app pk.1 m1)).mpr (InR.mem (List.mem_append_left _ hr))
def sp_room_in (K : PySem.W.Frag) : Sp := fun vs H Q _ => ∃ (v : V) (b : Addr) (ns : List Str) (p : Int) (n : Nat) (kn : List (List Int)) (hs : List (Str × List (List Int))), vs = [v, .ref b] ∧ Dp K H v (standD p n kn hs) ∧ SqT K H b (ns.map V.str) ∧ StandR p n kn hs ∧
  ∀ H' l, Same H H' → RowsAt K H' l (plainR p n (kn ++ selR ns hs)) → Q (.ref l) H'
theorem ok_room_in (T : Top K mg) : Ok P w K mg base 6 "room_in" ["stand", "names"] (sp_room_in K) := by
  have O_room_of := ok_room_of (P := P) (w := w) (base := base) T
  refine T.d_room_in.ok sc_room_in (fun vs H Q E h => ?_) (fun f cdv A outer s H vs Q E hr h => ?_)
  · obtain ⟨v, b, ns, p, n, kn, hs, rfl, _⟩ := h
    rfl
  · obtain ⟨v, b, ns, p, n, kn, hs, rfl, dp, hb, G, q⟩ := h
    obtain ⟨a, k, g, wg, rfl, ha, hk, hg, dg⟩ := dp_stand dp
    have lg := dpAll_len dg
    rw [List.length_map] at lg
    refine ⟨_, ((pss_cons (ps_asg (pv 0) (pg_tup (by rfl) (pgs_cons (pg_name (i := 2) sc_room_in.nd rfl (.inl rfl)) (pgs_cons (pg_name (i := 3) sc_room_in.nd rfl (.inl rfl)) (pgs_cons (pg_name (i := 4) sc_room_in.nd rfl (.inl rfl)) (pgs_cons (pg_name (i := 5) sc_room_in.nd rfl (.inl rfl)) pgs_nil))))))
      (pss_cons (ps_set (i := 6) sc_room_in.nd rfl (.inl rfl) (pv 4))
      (pss_cons (ps_for PassesOwn.never (by rfl) (pi_tup (pv 5)) (pg_tup (by rfl) (pgs_cons (pg_name (i := 7) sc_room_in.nd rfl (.inl rfl)) (pgs_cons (pg_name (i := 8) sc_room_in.nd rfl (.inl rfl)) pgs_nil)))
        (pss_one (ps_if (pt_cmpR op_in_seq (pv 7) (pv 1) (by rfl))
          (pss_one (ps_set (i := 6) sc_room_in.nd rfl (.inl rfl) (pe_op op_catB (pv 6) (pv 8))))
          pss_nil)))
      (pss_one (ps_ret (pe_callO O_room_of (hr.mono (by omega)) (by rfl) (pa_cons (pv 2) (pa_cons (pv 3) (pa_cons (pv 6) pa_nil)))))))))), ?_⟩
    refine ⟨.ref a, rfl, a, _, rfl, ha, rfl, _, _, rfl, _, _, rfl, _, _, rfl, _, _, rfl, rfl, .ref k, rfl, .ref g, rfl, g, rfl, ⟨_, hg⟩, for_it (walk_tup (K := K) (a := g) (xs := wg)) (fun i σ H' => Same H H' ∧ ∃ (l : Addr) (y7 y8 : Option V), RowsAt K H' l (kn ++ selR ns (hs.take i)) ∧ σ = [some (.ref a), some (.ref b), some (.int p), some (.int (n : Int)), some (.ref k), some (.ref g), some (.ref l), y7, y8])
      ⟨Same.refl H, k, none, none, by rw [show selR ns (hs.take 0) = [] from rfl, List.append_nil]; exact hk, rfl⟩ (fun i σ H' _ hW => Same.tup hW.1 hg) (fun i x σ H' H'' hi hW hY => ?_) (fun σ H' hW => ?_)⟩
    · obtain ⟨rfl, hx⟩ := hY
      obtain ⟨s1, l, y7, y8, hl, rfl⟩ := hW
      obtain ⟨c, r, x, rfl, gx, mx, hc, hrr⟩ := dpAll_hand (dpAll_same s1 _ _ dg) hx
      refine ⟨c, _, rfl, hc, rfl, _, _, rfl, _, _, rfl, rfl, ?_⟩
      refine ⟨.str x.1, rfl, .ref b, rfl, b, _, rfl, .inr (Same.tup s1 hb), rfl, flat_strs ns, ?_⟩
      refine ⟨_, rfl, ?_⟩
      rw [show (if false = true then !inV (V.str x.1) (ns.map V.str) else inV (V.str x.1) (ns.map V.str)) = decide (x.1 ∈ ns) from in_strs x.1 ns]
      have st := sel_take (ns := ns) gx
      by_cases hn : x.1 ∈ ns
      · rw [decide_eq_true hn]
        rw [if_pos hn] at st
        obtain ⟨w1, hw1, hw2⟩ := hl
        obtain ⟨w2, hr1, hr2⟩ := hrr
        have l1 := dpAll_len hw2
        have l2 := dpAll_len hr2
        rw [List.length_map] at l1 l2
        rw [List.length_append] at l1
        have lx := G.lr x mx
        have ls := sel_len (ns := ns) (B := 8) (hs := hs.take i) (fun y hy => G.lr y (List.mem_of_mem_take hy))
        have lt := List.length_take_le i hs
        have lm := G.many
        have lk := G.lk
        have ls72 : (selR ns (hs.take i)).length ≤ 8 * 9 := Nat.le_trans ls (Nat.mul_le_mul_left 8 (by rw [List.length_take]; omega))
        refine iteT ⟨.ref l, rfl, .ref r, rfl, l, r, _, _, rfl, rfl, hw1, hr1, Nat.le_of_lt (small1000 (by omega)), fun o H3 s3 ho => ?_⟩
        refine ⟨s1.trans s3, o, _, _, ⟨_, ho, ?_⟩, rfl⟩
        rw [st, ← List.append_assoc, List.map_append]
        exact dpAll_append (dpAll_same s3 _ _ hw2) (dpAll_same s3 _ _ hr2)
      · rw [decide_eq_false hn]
        rw [if_neg hn, List.append_nil] at st
        exact iteF ⟨s1, l, _, _, by rw [st]; exact hl, rfl⟩
    · obtain ⟨s1, l, y7, y8, hl, rfl⟩ := hW
      rw [List.take_of_length_le (by omega)] at hl
      refine ⟨.int p, rfl, .int n, rfl, .ref l, rfl, l, _, p, n, rfl, hl, fun r hr => ?_, G.fld, G.n1, by have := G.n8; omega, G.p1, fun H2 l2 s2 h2 => q H2 l2 (s1.trans s2) h2⟩
      rcases List.mem_append.mp hr with hr | hr
      · exact G.ok r hr
      · exact sel_ok G.rm r hr
theorem at2 {K : PySem.W.Frag} {p : Int} {n : Nat} {k g : Addr} : atI [V.int p, .int (n : Int), .ref k, .ref g] 2 = some (.ref k) := rfl
def sp_lroom (K : PySem.W.Frag) : Sp := fun vs H Q _ => ∃ (v : V) (b : Addr) (ns : List Str) (p : Int) (n : Nat) (kn : List (List Int)) (hs : List (Str × List (List Int))), vs = [v, .ref b] ∧ Dp K H v (standD p n kn hs) ∧ SqT K H b (ns.map V.str) ∧ StandR p n kn hs ∧
  ∀ H' l, Same H H' → RowsAt K H' l (plainR p n (kn ++ selR ns hs)) → Q (.ref l) H'
theorem ok__law_room (T : Top K mg) : Ok P w K mg base 3 "_law_room" ["_law_stand_here", "_law_names_here"] (sp_lroom K) := by
  have O__law_plain := ok__law_plain (P := P) (w := w) (base := base) T
  refine T.d__law_room.ok sc__law_room (fun vs H Q E h => ?_) (fun f cdv A outer s H vs Q E hr h => ?_)
  · obtain ⟨v, b, ns, p, n, kn, hs, rfl, _⟩ := h
    rfl
  · obtain ⟨v, b, ns, p, n, kn, hs, rfl, dp, hb, G, q⟩ := h
    obtain ⟨a, k, g, wg, rfl, ha, hk, hg, dg⟩ := dp_stand dp
    have lg := dpAll_len dg
    rw [List.length_map] at lg
    obtain ⟨wk, ek, dk⟩ := hk
    refine ⟨_, ((pss_cons (ps_set (i := 2) sc__law_room.nd rfl (.inl rfl) (pe_callTy call_list_of (by rfl) T.b_list (by decide +kernel) (pa_cons (pe_ix ix_tup (pv 0) pe_int (fun _ _ => rfl)) pa_nil)))
      (pss_cons (ps_for PassesOwn.never (by rfl) (pi_tup (pe_ix ix_tup (pv 0) pe_int (fun _ _ => rfl))) (pg_tup (by rfl) (pgs_cons (pg_name (i := 3) sc__law_room.nd rfl (.inl rfl)) (pgs_cons (pg_name (i := 4) sc__law_room.nd rfl (.inl rfl)) pgs_nil)))
        (pss_one (ps_if (pt_cmpR op_in_seq (pv 3) (pv 1) (by rfl))
          (pss_one (ps_set (i := 2) sc__law_room.nd rfl (.inl rfl) (pe_op op_cat (pv 2) (pe_callTy call_list_of (by rfl) T.b_list (by decide +kernel) (pa_cons (pv 4) pa_nil)))))
          pss_nil)))
      (pss_one (ps_ret (pe_callO O__law_plain (hr.mono (by omega)) (by rfl) (pa_cons (pe_ix ix_tup (pv 0) pe_int (fun _ _ => rfl)) (pa_cons (pv 2) pa_nil)))))))), ?_⟩
    refine ⟨.ref a, rfl, a, _, _, _, rfl, rfl, ha, at2 (K := K), k, _, rfl, .inr ek, fun l0 n0 => ?_⟩
    dsimp only
    generalize h0 : upd H l0 _ = H0
    obtain ⟨s0, e0⟩ := new_of h0 n0
    refine ⟨.ref a, rfl, a, _, 3, .ref g, rfl, rfl, Same.tup s0 ha, rfl, g, rfl, ⟨_, Same.tup s0 hg⟩, for_it (walk_tup (K := K) (a := g) (xs := wg)) (fun i σ H' => Same H H' ∧ ∃ (l : Addr) (ws : List V) (y3 y4 : Option V), H' l = some (.lst ws) ∧ DpAll K H' ws ((kn ++ selR ns (hs.take i)).map rowD) ∧ σ = [some (.ref a), some (.ref b), some (.ref l), y3, y4])
      ⟨s0, l0, _, none, none, e0, by rw [show selR ns (hs.take 0) = [] from rfl, List.append_nil]; exact dpAll_same s0 _ _ dk, rfl⟩ (fun i σ H' _ hW => Same.tup hW.1 hg) (fun i x σ H' H'' hi hW hY => ?_) (fun σ H' hW => ?_)⟩
    · obtain ⟨rfl, hx⟩ := hY
      obtain ⟨s1, l, ws, y3, y4, hl, dl, rfl⟩ := hW
      obtain ⟨c, r, x, rfl, gx, mx, hc, hrr⟩ := dpAll_hand (dpAll_same s1 _ _ dg) hx
      refine ⟨c, _, rfl, hc, rfl, _, _, rfl, _, _, rfl, rfl, ?_⟩
      refine ⟨.str x.1, rfl, .ref b, rfl, b, _, rfl, .inr (Same.tup s1 hb), rfl, flat_strs ns, ?_⟩
      refine ⟨_, rfl, ?_⟩
      rw [show (if false = true then !inV (V.str x.1) (ns.map V.str) else inV (V.str x.1) (ns.map V.str)) = decide (x.1 ∈ ns) from in_strs x.1 ns]
      have st := sel_take (ns := ns) gx
      by_cases hn : x.1 ∈ ns
      · rw [decide_eq_true hn]
        rw [if_pos hn] at st
        obtain ⟨w2, hr1, hr2⟩ := hrr
        have l1 := dpAll_len dl
        have l2 := dpAll_len hr2
        rw [List.length_map] at l1 l2
        rw [List.length_append] at l1
        have lx := G.lr x mx
        have ls := sel_len (ns := ns) (B := 8) (hs := hs.take i) (fun y hy => G.lr y (List.mem_of_mem_take hy))
        have lm := G.many
        have lk := G.lk
        have ls72 : (selR ns (hs.take i)).length ≤ 8 * 9 := Nat.le_trans ls (Nat.mul_le_mul_left 8 (by rw [List.length_take]; omega))
        refine iteT ⟨.ref l, rfl, .ref r, rfl, r, _, rfl, .inr hr1, fun o no => ?_⟩
        dsimp only
        generalize h3 : upd _ o _ = H3
        obtain ⟨s3, e3⟩ := new_of h3 no
        refine ⟨l, o, _, _, rfl, rfl, s3 _ _ hl, e3, Nat.le_of_lt (small1000 (by omega)), fun o2 no2 => ?_⟩
        dsimp only
        generalize h4 : upd H3 o2 _ = H4
        obtain ⟨s4, e4⟩ := new_of h4 no2
        refine ⟨s1.trans (s3.trans s4), o2, _, _, _, e4, ?_, rfl⟩
        rw [st, ← List.append_assoc, List.map_append]
        exact dpAll_append (dpAll_same (s3.trans s4) _ _ dl) (dpAll_same (s3.trans s4) _ _ hr2)
      · rw [decide_eq_false hn]
        rw [if_neg hn, List.append_nil] at st
        exact iteF ⟨s1, l, ws, _, _, hl, by rw [st]; exact dl, rfl⟩
    · obtain ⟨s1, l, ws, y3, y4, hl, dl, rfl⟩ := hW
      rw [List.take_of_length_le (by omega)] at dl
      have ls := sel_len (ns := ns) (B := 8) (hs := hs) G.lr
      have lm := G.many
      have lk := G.lk
      have n8 := G.n8
      refine ⟨.ref a, rfl, a, _, 0, .int p, rfl, rfl, Same.tup s1 ha, rfl, .ref l, rfl, l, ws, _, p, n, rfl, .inl (.inl (.inl hl)), dl, fun r hr => ?_, G.fld, G.p1, G.n1, by omega, by rw [List.length_append]; omega, fun H2 l2 s2 h2 => q H2 l2 (s1.trans s2) h2⟩
      rcases List.mem_append.mp hr with hr | hr
      · exact G.ok r hr
      · exact sel_ok G.rm r hr
end
end OC
set_option Elab.async false
set_option linter.all false
set_option maxRecDepth 100000
set_option maxHeartbeats 4000000
namespace OC
open PySem PySem.Spec PyProof.Rows L2
section
variable {P : Program} {w : World} {K : PySem.W.Frag} {mg : Str → Option Value} {base : Heap}
def sp_inside (K : PySem.W.Frag) : Sp := fun vs H Q _ => ∃ (a b : Addr) (one other : List (List Int)) (p : Int) (n : Nat), vs = [.int p, .ref a, .ref b] ∧ RowsAt K H a one ∧ RowsAt K H b other ∧ RowsOk p n one ∧ PFR p n other ∧ one.length ≤ 100 ∧ Fld p ∧ n ≤ 100 ∧ p ≤ 1000 ∧
  ∀ H', Same H H' → Q (.bl (one.all (hasR p n other))) H'
theorem ok_inside (T : Top K mg) : Ok P w K mg base 5 "inside" ["p", "one", "other"] (sp_inside K) := by
  have O_within := ok_within (P := P) (w := w) (base := base) T
  refine T.d_inside.ok sc_inside (fun vs H Q E h => ?_) (fun f cdv A outer s H vs Q E hr h => ?_)
  · obtain ⟨a, b, one, other, p, n, rfl, _⟩ := h
    rfl
  · obtain ⟨a, b, one, other, p, n, rfl, hA0, hB0, ok, pf, l1, hF, hn, hp, q⟩ := h
    refine ⟨_, ((pss_one (ps_ret (pe_callB (cr_all (by rfl)) (by rfl) T.b_all (by decide +kernel) (pa_cons (pe_lc (own := [("row", 3)]) (g := gName 3) (by rfl) sc_inside.nd (pi_tup (pv 1)) (blkOk_by (own := [("row", 3)]) (N := N_inside) (sc := defScope s_inside) (by decide +kernel)) (fun _ _ _ _ _ => (pg_name (i := 3) sc_inside.nd rfl (.inl rfl))) (fun _ _ _ _ _ => pts_nil) (fun _ _ _ _ _ => (pe_callO O_within (hr.mono (by omega)) (by rfl) (pa_cons (pv 0) (pa_cons (pv 2) (pa_cons (pv 3) pa_nil)))))) pa_nil))))), ?_⟩
    obtain ⟨ws, hA, hR⟩ := id hA0
    have lw := rows_len hR
    refine ⟨.ref a, rfl, a, rfl, ⟨_, hA⟩, lc_mapR (fun d => .bool (hasR p n other (intsOf d))) (walk_tup (K := K) (a := a) (xs := ws)) (fun H' s => Same.tup s hA) (rep_rows hR) (by omega) (fun _ => rfl) (fun v d H' Q' md rv sm hQ => ?_) (fun D H1 wd s1 nD eD rD => ?_)⟩
    · obtain ⟨r, mr, rfl⟩ := List.mem_map.mp md
      obtain ⟨c, rfl, hc⟩ := rep_row rv
      simp only [ints_row] at hQ
      exact ⟨.int p, rfl, .ref b, rfl, .ref c, rfl, c, b, other, r, p, n, rfl, RowsAt.same sm hB0, hc, pf, rowsOk_one (ok r mr), hF, hn, hp, fun H'' s'' => hQ (.bl _) H'' s'' (.bl _)⟩
    have e : (one.map rowD).map (fun d => PyData.bool (hasR p n other (intsOf d))) = (one.map (hasR p n other)).map PyData.bool := by
      rw [List.map_map, List.map_map]
      apply List.map_congr_left
      intro r _
      show PyData.bool (hasR p n other (intsOf (rowD r))) = _
      rw [ints_row]
      rfl
    rw [e] at rD
    have ew := rep_bls rD
    subst ew
    refine ⟨D, one.map (hasR p n other), rfl, .inl (.inl eD), ?_⟩
    rw [List.all_map]
    exact q H1 s1
def sp_joined (K : PySem.W.Frag) : Sp := fun vs H Q _ => ∃ (a b : Addr) (one other : List (List Int)) (p : Int) (n : Nat), vs = [.int p, .int (n : Int), .ref a, .ref b] ∧ RowsAt K H a one ∧ RowsAt K H b other ∧ RowsOk p n one ∧ RowsOk p n other ∧ one.length ≤ 400 ∧ other.length ≤ 400 ∧ Fld p ∧ 1 ≤ n ∧ n ≤ 100 ∧ p ≤ 1000 ∧
  ∀ H' l, Same H H' → RowsAt K H' l (joinR p n one other) → Q (.ref l) H'
theorem RowsAt.cat {K : PySem.W.Frag} {H H' : Hp} {a b c : Addr} {one other : List (List Int)} {ws us : List V} (h1 : DpAll K H ws (one.map rowD)) (h2 : DpAll K H us (other.map rowD)) (s : Same H H') (h : SqT K H' c (ws ++ us)) : RowsAt K H' c (one ++ other) :=
  ⟨_, h, by rw [List.map_append]; exact dpAll_append (dpAll_same s _ _ h1) (dpAll_same s _ _ h2)⟩
theorem ok_joined (T : Top K mg) : Ok P w K mg base 6 "joined" ["p", "n", "one", "other"] (sp_joined K) := by
  have O_room_of := ok_room_of (P := P) (w := w) (base := base) T
  refine T.d_joined.ok sc_joined (fun vs H Q E h => ?_) (fun f cdv A outer s H vs Q E hr h => ?_)
  · obtain ⟨a, b, one, other, p, n, rfl, _⟩ := h
    rfl
  · obtain ⟨a, b, one, other, p, n, rfl, ⟨ws, hA, hR⟩, ⟨us, hB, hS⟩, ok1, ok2, l1, l2, hF, n1, hn, hp, q⟩ := h
    refine ⟨_, ((pss_one (ps_ret (pe_callO O_room_of (hr.mono (by omega)) (by rfl) (pa_cons (pv 0) (pa_cons (pv 1) (pa_cons (pe_op op_catB (pv 2) (pv 3)) pa_nil))))))), ?_⟩
    have lw := rows_len hR
    have lu := rows_len hS
    refine ⟨.int p, rfl, .int n, rfl, .ref a, rfl, .ref b, rfl, a, b, ws, us, rfl, rfl, hA, hB, sz1000 (by omega), fun m H1 s1 h1 => ?_⟩
    exact ⟨m, _, p, n, rfl, RowsAt.cat (a := a) (b := b) hR hS s1 h1, rowsOk_app ok1 ok2, hF, n1, hn, hp, fun H2 l2 s2 h2 => q H2 l2 (s1.trans s2) h2⟩
def sp_shared (K : PySem.W.Frag) : Sp := fun vs H Q _ => ∃ (a b : Addr) (one other : List (List Int)) (p : Int) (n : Nat), vs = [.int p, .int (n : Int), .ref a, .ref b] ∧ RowsAt K H a one ∧ RowsAt K H b other ∧ PFR p n one ∧ PFR p n other ∧ Fld p ∧ 1 ≤ n ∧ n ≤ 100 ∧ p ≤ 1000 ∧
  ∀ H' l, Same H H' → RowsAt K H' l (meetR p n one other) → Q (.ref l) H'
theorem ok_shared (T : Top K mg) : Ok P w K mg base 7 "shared" ["p", "n", "one", "other"] (sp_shared K) := by
  have O_across := ok_across (P := P) (w := w) (base := base) T
  have O_joined := ok_joined (P := P) (w := w) (base := base) T
  refine T.d_shared.ok sc_shared (fun vs H Q E h => ?_) (fun f cdv A outer s H vs Q E hr h => ?_)
  · obtain ⟨a, b, one, other, p, n, rfl, _⟩ := h
    rfl
  · obtain ⟨a, b, one, other, p, n, rfl, hA, hB, pf1, pf2, hF, n1, hn, hp, q⟩ := h
    refine ⟨_, ((pss_one (ps_ret (pe_callO O_across (hr.mono (by omega)) (by rfl) (pa_cons (pv 0) (pa_cons (pv 1) (pa_cons (pe_callO O_joined (hr.mono (by omega)) (by rfl) (pa_cons (pv 0) (pa_cons (pv 1) (pa_cons (pe_callO O_across (hr.mono (by omega)) (by rfl) (pa_cons (pv 0) (pa_cons (pv 1) (pa_cons (pv 2) pa_nil)))) (pa_cons (pe_callO O_across (hr.mono (by omega)) (by rfl) (pa_cons (pv 0) (pa_cons (pv 1) (pa_cons (pv 3) pa_nil)))) pa_nil))))) pa_nil))))))), ?_⟩
    have o1 := PFR.across hF n one
    have o2 := PFR.across hF n other
    have l1 := PFR.len hF o1
    have l2 := PFR.len hF o2
    refine ⟨.int p, rfl, .int n, rfl, .int p, rfl, .int n, rfl, .int p, rfl, .int n, rfl, .ref a, rfl, a, one, p, n, rfl, hA, pf1, hF, n1, hn, hp, fun H1 c s1 h1 => ?_⟩
    refine ⟨.int p, rfl, .int n, rfl, .ref b, rfl, b, other, p, n, rfl, RowsAt.same s1 hB, pf2, hF, n1, hn, hp, fun H2 d s2 h2 => ?_⟩
    refine ⟨c, d, _, _, p, n, rfl, RowsAt.same s2 h1, h2, o1.1, o2.1, by omega, by omega, hF, n1, hn, hp, fun H3 e s3 h3 => ?_⟩
    exact ⟨e, _, p, n, rfl, h3, join_pf hF o1.1 o2.1, hF, n1, hn, hp, fun H4 l s4 h4 => q H4 l ((s1.trans s2).trans (s3.trans s4)) h4⟩
structure R3 (p : Int) (n : Nat) (C L O : List (List Int)) (r : List Int) : Prop where
  fld : Fld p
  p1 : p ≤ 1000
  n1 : 1 ≤ n
  n8 : n ≤ 8
  c : PFR p n C
  l : PFR p n L
  o : PFR p n O
  r : RowsOk p n [r]
def sp_first_outside (K : PySem.W.Frag) : Sp := fun vs H Q _ => ∃ (a b : Addr) (room rows : List (List Int)) (p : Int) (n : Nat), vs = [.int p, .ref b, .ref a] ∧ RowsAt K H b room ∧ RowsAt K H a rows ∧ PFR p n room ∧ RowsOk p n rows ∧ Fld p ∧ n ≤ 100 ∧ p ≤ 1000 ∧
  ∀ H', Same H H' → (outR p n room rows = none → Q .non H') ∧ ∀ c r, outR p n room rows = some r → SqT K H' c (r.map V.int) → Q (.ref c) H'
theorem ok_first_outside (T : Top K mg) : Ok P w K mg base 5 "first_outside" ["p", "room", "rows"] (sp_first_outside K) := by
  have O_within := ok_within (P := P) (w := w) (base := base) T
  refine T.d_first_outside.ok sc_first_outside (fun vs H Q E h => ?_) (fun f cdv A outer s H vs Q E hr h => ?_)
  · obtain ⟨a, b, room, rows, p, n, rfl, _⟩ := h
    rfl
  · obtain ⟨a, b, room, rows, p, n, rfl, hB, hA0, pf, ok, hF, hn, hp, q⟩ := h
    refine ⟨_, ((pss_cons (ps_for PassesOwn.never (by rfl) (pi_tup (pv 2)) (pg_name (i := 3) sc_first_outside.nd rfl (.inl rfl))
        (pss_one (ps_if (pt_not (pt_val (pe_callO O_within (hr.mono (by omega)) (by rfl) (pa_cons (pv 0) (pa_cons (pv 1) (pa_cons (pv 3) pa_nil))))))
          (pss_one (ps_ret (pv 3)))
          pss_nil)))
      (pss_one (ps_ret pe_non)))), ?_⟩
    obtain ⟨ws, hA, hR⟩ := id hA0
    have lw := rows_len hR
    refine ⟨.ref a, rfl, a, rfl, ⟨_, hA⟩, for_it (walk_tup (K := K) (a := a) (xs := ws)) (fun i σ H' => Same H H' ∧ (∀ x ∈ rows.take i, hasR p n room x = true) ∧ ∃ y3 : Option V, σ = [some (.int p), some (.ref b), some (.ref a), y3]) ⟨Same.refl _, fun x hx => by rw [List.take_zero] at hx; exact (nomatch hx), none, rfl⟩ (fun i σ H' _ hW => Same.tup hW.1 hA) (fun i x σ H1 H2 hi hW hY => ?_) (fun σ H1 hW => ?_)⟩
    · obtain ⟨rfl, hx⟩ := hY
      obtain ⟨s1, all, y3, rfl⟩ := hW
      obtain ⟨c, r, rfl, gr, mr, hc⟩ := dpAll_row (dpAll_same s1 _ _ hR) hx
      refine ⟨.int p, rfl, .ref b, rfl, .ref c, rfl, c, b, room, r, p, n, rfl, RowsAt.same s1 hB, hc, pf, rowsOk_one (ok r mr), hF, hn, hp, fun H3 s3 => ⟨_, rfl, ?_⟩⟩
      have s13 := s1.trans s3
      cases hh : hasR p n room r with
      | false =>
        refine iteT ⟨.ref c, rfl, (q H3 s13).2 c r ?_ (Same.tup s3 hc)⟩
        unfold outR
        rw [← List.take_append_drop i rows, List.find?_append, List.find?_eq_none.mpr (fun x hx => by rw [all x hx]; decide), List.drop_eq_getElem_cons (by omega)]
        have er : rows[i]'(by omega) = r := Option.some.inj ((List.getElem?_eq_getElem (by omega)).symm.trans gr)
        rw [er, List.find?_cons_of_pos (by rw [hh]; rfl)]
        rfl
      | true =>
        refine iteF ⟨s13, fun x hx => ?_, _, rfl⟩
        rw [List.take_add_one, gr] at hx
        rcases List.mem_append.mp hx with hx | hx
        · exact all x hx
        · have : x = r := by simpa using hx
          rw [this]
          exact hh
    · obtain ⟨s1, all, y3, rfl⟩ := hW
      rw [List.take_of_length_le (by omega)] at all
      refine (q H1 s1).1 ?_
      unfold outR
      exact List.find?_eq_none.mpr fun x hx => by rw [all x hx]; decide
def sp_way_of (K : PySem.W.Frag) : Sp := fun vs H Q _ => ∃ (u : V) (b : Addr) (C L O : List (List Int)) (r : List Int) (p : Int) (n : Nat), vs = [.int p, .int (n : Int), u, .ref b] ∧ Dp K H u (r3D C L O) ∧ SqT K H b (r.map V.int) ∧ R3 p n C L O r ∧ ∀ H' l, Same H H' → RowsAt K H' l (wayR p n C L r) → Q (.ref l) H'
theorem ok_way_of (T : Top K mg) : Ok P w K mg base 8 "way_of" ["p", "n", "rooms", "row"] (sp_way_of K) := by
  have O_shared := ok_shared (P := P) (w := w) (base := base) T
  have O_widened := ok_widened (P := P) (w := w) (base := base) T
  refine T.d_way_of.ok sc_way_of (fun vs H Q E h => ?_) (fun f cdv A outer s H vs Q E hr h => ?_)
  · obtain ⟨u, b, C, L, O, r, p, n, rfl, _⟩ := h
    rfl
  · obtain ⟨u, b, C, L, O, r, p, n, rfl, du, hb, R, q⟩ := h
    obtain ⟨a, c, l, o, rfl, ha, hc, hl, ho⟩ := dp_r3 du
    have n8 := R.n8
    refine ⟨_, ((pss_cons (ps_asg (pv 2) (pg_tup (by rfl) (pgs_cons (pg_name (i := 4) sc_way_of.nd rfl (.inl rfl)) (pgs_cons (pg_name (i := 5) sc_way_of.nd rfl (.inl rfl)) (pgs_cons (pg_name (i := 6) sc_way_of.nd rfl (.inl rfl)) pgs_nil)))))
      (pss_one (ps_ret (pe_callO O_shared (hr.mono (by omega)) (by rfl) (pa_cons (pv 0) (pa_cons (pv 1) (pa_cons (pv 4) (pa_cons (pe_callO O_widened (hr.mono (by omega)) (by rfl) (pa_cons (pv 0) (pa_cons (pv 5) (pa_cons (pv 3) pa_nil)))) pa_nil))))))))), ?_⟩
    refine ⟨.ref a, rfl, a, _, rfl, ha, rfl, _, _, rfl, _, _, rfl, _, _, rfl, rfl, ?_⟩
    refine ⟨.int p, rfl, .int n, rfl, .ref c, rfl, .int p, rfl, .ref l, rfl, .ref b, rfl, b, l, L, r, p, n, rfl, hl, hb, R.l, R.r, R.fld, R.n1, by omega, R.p1, fun H1 l1 s1 h1 => ?_⟩
    exact ⟨c, l1, C, _, p, n, rfl, RowsAt.same s1 hc, h1, R.c, PFR.of_plain R.fld (rowsOk_app R.l.1 R.r), R.fld, R.n1, by omega, R.p1, fun H2 l2 s2 h2 => q H2 l2 (s1.trans s2) h2⟩
def sp_is_aside (K : PySem.W.Frag) : Sp := fun vs H Q _ => ∃ (u : V) (b d : Addr) (C L O : List (List Int)) (r c : List Int) (p : Int) (n : Nat), vs = [.int p, u, .ref b, .ref d] ∧ Dp K H u (r3D C L O) ∧ SqT K H b (r.map V.int) ∧ SqT K H d (c.map V.int) ∧ R3 p n C L O r ∧ RowsOk p n [c] ∧ ∀ H', Same H H' → Q (.bl (asideB p n C L O r c)) H'
theorem ok_is_aside (T : Top K mg) : Ok P w K mg base 5 "is_aside" ["p", "rooms", "row", "call"] (sp_is_aside K) := by
  have O_within := ok_within (P := P) (w := w) (base := base) T
  have O_widened := ok_widened (P := P) (w := w) (base := base) T
  refine T.d_is_aside.ok sc_is_aside (fun vs H Q E h => ?_) (fun f cdv A outer s H vs Q E hr h => ?_)
  · obtain ⟨u, b, d, C, L, O, r, c, p, n, rfl, _⟩ := h
    rfl
  · obtain ⟨u, b, d, C, L, O, r, c, p, n, rfl, du, hb, hd, R, okc, q⟩ := h
    obtain ⟨a, ca, l, o, rfl, ha, hc, hl, ho⟩ := dp_r3 du
    have n8 := R.n8
    have F := R.fld
    refine ⟨_, ((pss_cons (ps_asg (pv 1) (pg_tup (by rfl) (pgs_cons (pg_name (i := 4) sc_is_aside.nd rfl (.inl rfl)) (pgs_cons (pg_name (i := 5) sc_is_aside.nd rfl (.inl rfl)) (pgs_cons (pg_name (i := 6) sc_is_aside.nd rfl (.inl rfl)) pgs_nil)))))
      (pss_cons (ps_if (PW.pt (pw_or (pt_not (pt_val (pe_callO O_within (hr.mono (by omega)) (by rfl) (pa_cons (pv 0) (pa_cons (pv 4) (pa_cons (pv 3) pa_nil)))))) (pw_or1 (pt_not (pt_val (pe_callO O_within (hr.mono (by omega)) (by rfl) (pa_cons (pv 0) (pa_cons (pe_callO O_widened (hr.mono (by omega)) (by rfl) (pa_cons (pv 0) (pa_cons (pv 5) (pa_cons (pv 3) pa_nil)))) (pa_cons (pv 2) pa_nil)))))))))
        (pss_one (ps_ret pe_bl))
        pss_nil)
      (pss_one (ps_ret (pe_not (pe_callO O_within (hr.mono (by omega)) (by rfl) (pa_cons (pv 0) (pa_cons (pe_callO O_widened (hr.mono (by omega)) (by rfl) (pa_cons (pv 0) (pa_cons (pv 6) (pa_cons (pv 3) pa_nil)))) (pa_cons (pv 2) pa_nil)))))))))), ?_⟩
    refine ⟨.ref a, rfl, a, _, rfl, ha, rfl, _, _, rfl, _, _, rfl, _, _, rfl, rfl, ?_⟩
    refine ⟨.int p, rfl, .ref ca, rfl, .ref d, rfl, d, ca, C, c, p, n, rfl, hc, hd, R.c, okc, F, by omega, R.p1, fun H1 s1 => ⟨_, rfl, ?_⟩⟩
    unfold asideB at q
    cases h1 : hasR p n C c with
    | false =>
      rw [h1] at q
      exact iteT (iteT (q H1 s1))
    | true =>
      rw [h1, Bool.true_and] at q
      refine iteF ⟨.int p, rfl, .int p, rfl, .ref l, rfl, .ref d, rfl, d, l, L, c, p, n, rfl, RowsAt.same s1 hl, Same.tup s1 hd, R.l, okc, F, R.n1, by omega, R.p1, fun H2 l2 s2 h2 => ?_⟩
      have s12 := s1.trans s2
      refine ⟨.ref b, rfl, b, l2, _, r, p, n, rfl, h2, Same.tup s12 hb, PFR.of_plain F (rowsOk_app R.l.1 okc), R.r, F, by omega, R.p1, fun H3 s3 => ⟨_, rfl, ?_⟩⟩
      have s13 := s12.trans s3
      cases h3 : hasR p n (plainR p n (L ++ [c])) r with
      | false =>
        rw [h3] at q
        exact iteT (q H3 s13)
      | true =>
        rw [h3, Bool.true_and] at q
        refine iteF ⟨.int p, rfl, .int p, rfl, .ref o, rfl, .ref d, rfl, d, o, O, c, p, n, rfl, RowsAt.same s13 ho, Same.tup s13 hd, R.o, okc, F, R.n1, by omega, R.p1, fun H4 l4 s4 h4 => ?_⟩
        have s14 := s13.trans s4
        exact ⟨.ref b, rfl, b, l4, _, r, p, n, rfl, h4, Same.tup s14 hb, PFR.of_plain F (rowsOk_app R.o.1 okc), R.r, F, by omega, R.p1, fun H5 s5 => ⟨_, rfl, q H5 (s14.trans s5)⟩⟩
def sp_is_barred (K : PySem.W.Frag) : Sp := fun vs H Q _ => ∃ (u : V) (b : Addr) (C L O : List (List Int)) (r : List Int) (p : Int) (n : Nat), vs = [.int p, .int (n : Int), u, .ref b] ∧ Dp K H u (r3D C L O) ∧ SqT K H b (r.map V.int) ∧ R3 p n C L O r ∧ ∀ H', Same H H' → Q (.bl (barredB p n C L O r)) H'
theorem ok_is_barred (T : Top K mg) : Ok P w K mg base 9 "is_barred" ["p", "n", "rooms", "row"] (sp_is_barred K) := by
  have O_shared := ok_shared (P := P) (w := w) (base := base) T
  have O_widened := ok_widened (P := P) (w := w) (base := base) T
  have O_inside := ok_inside (P := P) (w := w) (base := base) T
  have O_way_of := ok_way_of (P := P) (w := w) (base := base) T
  refine T.d_is_barred.ok sc_is_barred (fun vs H Q E h => ?_) (fun f cdv A outer s H vs Q E hr h => ?_)
  · obtain ⟨u, b, C, L, O, r, p, n, rfl, _⟩ := h
    rfl
  · obtain ⟨u, b, C, L, O, r, p, n, rfl, du, hb, R, q⟩ := h
    obtain ⟨a, c, l, o, rfl, ha, hc, hl, ho⟩ := dp_r3 du
    have n8 := R.n8
    have F := R.fld
    have pw := way_pf (n := n) (C := C) (L := L) (r := r) F
    have lw := PFR.len F pw
    refine ⟨_, ((pss_cons (ps_asg (pv 2) (pg_tup (by rfl) (pgs_cons (pg_name (i := 4) sc_is_barred.nd rfl (.inl rfl)) (pgs_cons (pg_name (i := 5) sc_is_barred.nd rfl (.inl rfl)) (pgs_cons (pg_name (i := 6) sc_is_barred.nd rfl (.inl rfl)) pgs_nil)))))
      (pss_cons (ps_set (i := 7) sc_is_barred.nd rfl (.inl rfl) (pe_callO O_way_of (hr.mono (by omega)) (by rfl) (pa_cons (pv 0) (pa_cons (pv 1) (pa_cons (pv 2) (pa_cons (pv 3) pa_nil))))))
      (pss_cons (ps_if (pt_val (pe_callO O_inside (hr.mono (by omega)) (by rfl) (pa_cons (pv 0) (pa_cons (pv 7) (pa_cons (pv 5) pa_nil)))))
        (pss_one (ps_ret pe_bl))
        pss_nil)
      (pss_one (ps_ret (pe_and (pe_callO O_inside (hr.mono (by omega)) (by rfl) (pa_cons (pv 0) (pa_cons (pv 7) (pa_cons (pe_callO O_widened (hr.mono (by omega)) (by rfl) (pa_cons (pv 0) (pa_cons (pv 6) (pa_cons (pv 3) pa_nil)))) pa_nil)))) (pe_one (pe_callO O_inside (hr.mono (by omega)) (by rfl) (pa_cons (pv 0) (pa_cons (pe_callO O_shared (hr.mono (by omega)) (by rfl) (pa_cons (pv 0) (pa_cons (pv 1) (pa_cons (pv 7) (pa_cons (pv 6) pa_nil))))) (pa_cons (pv 5) pa_nil)))))))))))), ?_⟩
    refine ⟨.ref a, rfl, a, _, rfl, ha, rfl, _, _, rfl, _, _, rfl, _, _, rfl, rfl, ?_⟩
    refine ⟨.int p, rfl, .int n, rfl, .ref a, rfl, .ref b, rfl, .ref a, b, C, L, O, r, p, n, rfl, du, hb, R, fun H1 l1 s1 h1 => ?_⟩
    refine ⟨.int p, rfl, .ref l1, rfl, .ref l, rfl, l1, l, _, L, p, n, rfl, h1, RowsAt.same s1 hl, pw.1, R.l, by omega, F, by omega, R.p1, fun H2 s2 => ⟨_, rfl, ?_⟩⟩
    have s12 := s1.trans s2
    unfold barredB at q
    cases g1 : (wayR p n C L r).all (hasR p n L) with
    | true =>
      rw [g1] at q
      exact iteT (q H2 s12)
    | false =>
      rw [g1, Bool.false_or] at q
      refine iteF ⟨.int p, rfl, .ref l1, rfl, .int p, rfl, .ref o, rfl, .ref b, rfl, b, o, O, r, p, n, rfl, RowsAt.same s12 ho, Same.tup s12 hb, R.o, R.r, F, R.n1, by omega, R.p1, fun H3 l3 s3 h3 => ?_⟩
      have s13 := s12.trans s3
      refine ⟨l1, l3, _, _, p, n, rfl, RowsAt.same (s2.trans s3) h1, h3, pw.1, PFR.of_plain F (rowsOk_app R.o.1 R.r), by omega, F, by omega, R.p1, fun H4 s4 => ⟨_, rfl, ?_⟩⟩
      have s14 := s13.trans s4
      cases g2 : (wayR p n C L r).all (hasR p n (plainR p n (O ++ [r]))) with
      | false =>
        rw [g2] at q
        exact iteF (q H4 s14)
      | true =>
        rw [g2, Bool.true_and] at q
        refine iteT ⟨.int p, rfl, .int p, rfl, .int n, rfl, .ref l1, rfl, .ref o, rfl, l1, o, _, O, p, n, rfl, RowsAt.same ((s2.trans s3).trans s4) h1, RowsAt.same s14 ho, pw, R.o, F, R.n1, by omega, R.p1, fun H5 l5 s5 h5 => ?_⟩
        have pm : PFR p n (meetR p n (wayR p n C L r) O) := meet_pf F
        have lm := PFR.len F pm
        have s15 := s14.trans s5
        exact ⟨.ref l, rfl, l5, l, _, L, p, n, rfl, h5, RowsAt.same s15 hl, pm.1, R.l, by omega, F, by omega, R.p1, fun H6 s6 => q H6 (s15.trans s6)⟩
def sp_call_aside (K : PySem.W.Frag) : Sp := fun vs H Q _ => ∃ (u : V) (b : Addr) (C L O : List (List Int)) (r : List Int) (p : Int) (n : Nat), vs = [.int p, .int (n : Int), u, .ref b] ∧ Dp K H u (r3D C L O) ∧ SqT K H b (r.map V.int) ∧ R3 p n C L O r ∧ ¬ InR p L r ∧ ¬ InR p O r ∧
  ∀ H', Same H H' → (barredB p n C L O r = true → Q .non H') ∧ ∀ d c, barredB p n C L O r = false → callR p n C L O r = some c → SqT K H' d (c.map V.int) → Q (.ref d) H'
theorem ok_call_aside (T : Top K mg) : Ok P w K mg base 10 "call_aside" ["p", "n", "rooms", "row"] (sp_call_aside K) := by
  have O_is_barred := ok_is_barred (P := P) (w := w) (base := base) T
  have O_shared := ok_shared (P := P) (w := w) (base := base) T
  have O_widened := ok_widened (P := P) (w := w) (base := base) T
  have O_way_of := ok_way_of (P := P) (w := w) (base := base) T
  have O_first_outside := ok_first_outside (P := P) (w := w) (base := base) T
  have O_is_aside := ok_is_aside (P := P) (w := w) (base := base) T
  have O_added := ok_added (P := P) (w := w) (base := base) T
  refine T.d_call_aside.ok sc_call_aside (fun vs H Q E h => ?_) (fun f cdv A outer s H vs Q E hr h => ?_)
  · obtain ⟨u, b, C, L, O, r, p, n, rfl, _⟩ := h
    rfl
  · obtain ⟨u, b, C, L, O, r, p, n, rfl, du, hb, R, nL, nO, q⟩ := h
    obtain ⟨a, c, l, o, rfl, ha, hc, hl, ho⟩ := dp_r3 du
    have n8 := R.n8
    have F := R.fld
    have p2 := F.1
    have pw := way_pf (n := n) (C := C) (L := L) (r := r) F
    have lw := PFR.len F pw
    refine ⟨_, ((pss_cons (ps_if (pt_val (pe_callO O_is_barred (hr.mono (by omega)) (by rfl) (pa_cons (pv 0) (pa_cons (pv 1) (pa_cons (pv 2) (pa_cons (pv 3) pa_nil))))))
        (pss_one (ps_ret pe_non))
        pss_nil)
      (pss_cons (ps_asg (pv 2) (pg_tup (by rfl) (pgs_cons (pg_name (i := 4) sc_call_aside.nd rfl (.inl rfl)) (pgs_cons (pg_name (i := 5) sc_call_aside.nd rfl (.inl rfl)) (pgs_cons (pg_name (i := 6) sc_call_aside.nd rfl (.inl rfl)) pgs_nil)))))
      (pss_cons (ps_set (i := 7) sc_call_aside.nd rfl (.inl rfl) (pe_callO O_way_of (hr.mono (by omega)) (by rfl) (pa_cons (pv 0) (pa_cons (pv 1) (pa_cons (pv 2) (pa_cons (pv 3) pa_nil))))))
      (pss_cons (ps_set (i := 8) sc_call_aside.nd rfl (.inl rfl) (pe_callO O_first_outside (hr.mono (by omega)) (by rfl) (pa_cons (pv 0) (pa_cons (pv 5) (pa_cons (pv 7) pa_nil)))))
      (pss_cons (ps_set (i := 9) sc_call_aside.nd rfl (.inl rfl) (pe_callO O_first_outside (hr.mono (by omega)) (by rfl) (pa_cons (pv 0) (pa_cons (pe_callO O_widened (hr.mono (by omega)) (by rfl) (pa_cons (pv 0) (pa_cons (pv 6) (pa_cons (pv 3) pa_nil)))) (pa_cons (pv 7) pa_nil)))))
      (pss_cons (ps_if (pt_cmpR op_isN (pv 9) pe_non (nomark _))
        (pss_one (ps_ret (pe_callO O_first_outside (hr.mono (by omega)) (by rfl) (pa_cons (pv 0) (pa_cons (pv 5) (pa_cons (pe_callO O_shared (hr.mono (by omega)) (by rfl) (pa_cons (pv 0) (pa_cons (pv 1) (pa_cons (pv 7) (pa_cons (pv 6) pa_nil))))) pa_nil))))))
        pss_nil)
      (pss_cons (ps_for PassesOwn.never (by rfl) (pi_tup (pe_tup (pa_cons (pv 8) (pa_cons (pv 9) pa_nil)))) (pg_name (i := 10) sc_call_aside.nd rfl (.inl rfl))
        (pss_one (ps_if (pt_val (pe_callO O_is_aside (hr.mono (by omega)) (by rfl) (pa_cons (pv 0) (pa_cons (pv 2) (pa_cons (pv 3) (pa_cons (pv 10) pa_nil))))))
          (pss_one (ps_ret (pv 10)))
          pss_nil)))
      (pss_one (ps_ret (pe_callO O_added (hr.mono (by omega)) (by rfl) (pa_cons (pv 0) (pa_cons (pv 8) (pa_cons (pv 9) pa_nil)))))))))))))), ?_⟩
    refine ⟨.int p, rfl, .int n, rfl, .ref a, rfl, .ref b, rfl, .ref a, b, C, L, O, r, p, n, rfl, du, hb, R, fun H1 s1 => ⟨_, rfl, ?_⟩⟩
    cases hbar : barredB p n C L O r with
    | true => exact iteT ((q H1 s1).1 hbar)
    | false =>
      obtain ⟨good, hgood, okg, _⟩ := call_good F R.c R.l R.o R.r nL nO hbar
      refine iteF ⟨.ref a, rfl, a, _, rfl, Same.tup s1 ha, rfl, _, _, rfl, _, _, rfl, _, _, rfl, rfl, ?_⟩
      refine ⟨.int p, rfl, .int n, rfl, .ref a, rfl, .ref b, rfl, .ref a, b, C, L, O, r, p, n, rfl, dp_same s1 _ _ du, Same.tup s1 hb, R, fun H2 l2 s2 h2 => ?_⟩
      have s02 := s1.trans s2
      have hg := hgood
      unfold callR at hg
      rw [if_neg (by rw [hbar]; decide)] at hg
      have b1 : (wayR p n C L r).all (hasR p n L) = false := by
        unfold barredB at hbar
        exact (Bool.or_eq_false_iff.mp hbar).1
      refine ⟨.int p, rfl, .ref l, rfl, .ref l2, rfl, l2, l, L, wayR p n C L r, p, n, rfl, RowsAt.same s02 hl, h2, R.l, pw.1, F, by omega, R.p1, fun H3 s3 => ⟨fun z => ?_, fun nw w1 hw1 hnw => ?_⟩⟩
      · rw [out_none z] at b1
        cases b1
      obtain ⟨mw, _⟩ := out_some hw1
      have okw := rowsOk_one (pw.1 w1 mw)
      have s03 := s02.trans s3
      refine ⟨.int p, rfl, .int p, rfl, .ref o, rfl, .ref b, rfl, b, o, O, r, p, n, rfl, RowsAt.same s03 ho, Same.tup s03 hb, R.o, R.r, F, R.n1, by omega, R.p1, fun H4 l4 s4 h4 => ?_⟩
      have s04 := s03.trans s4
      have h24 := RowsAt.same (s3.trans s4) h2
      refine ⟨.ref l2, rfl, l2, l4, _, wayR p n C L r, p, n, rfl, h4, h24, PFR.of_plain F (rowsOk_app R.o.1 R.r), pw.1, F, by omega, R.p1, fun H5 s5 => ⟨fun z => ?_, fun st w2 hw2 hst => ?_⟩⟩
      · -- nothing strange
        rw [z] at hg
        have s05 := s04.trans s5
        refine ⟨.non, rfl, rfl, _, rfl, iteT ?_⟩
        refine ⟨.int p, rfl, .ref l, rfl, .int p, rfl, .int n, rfl, .ref l2, rfl, .ref o, rfl, l2, o, _, O, p, n, rfl, RowsAt.same s5 h24, RowsAt.same s05 ho, pw, R.o, F, R.n1, by omega, R.p1, fun H6 l6 s6 h6 => ?_⟩
        have pm : PFR p n (meetR p n (wayR p n C L r) O) := meet_pf F
        have s06 := s05.trans s6
        refine ⟨l6, l, L, _, p, n, rfl, RowsAt.same s06 hl, h6, R.l, pm.1, F, by omega, R.p1, fun H7 s7 => ⟨fun z7 => ?_, fun c7 r7 hr7 hc7 => ?_⟩⟩
        · rw [z7] at hg
          cases hg
        · refine (q H7 (s06.trans s7)).2 c7 r7 hbar ?_ hc7
          rw [hgood, ← hg]
          exact hr7
      · rw [hw2, hw1] at hg
        dsimp only at hg
        obtain ⟨ms, _⟩ := out_some hw2
        have oks := rowsOk_one (pw.1 w2 ms)
        have s05 := s04.trans s5
        have hnw5 := Same.tup (s4.trans s5) hnw
        refine ⟨.ref st, rfl, rfl, _, rfl, iteF ?_⟩
        refine ⟨.ref nw, rfl, .ref st, rfl, sz1000 (by decide : (2 : Nat) ≤ 1000), fun t6 n6 => ?_⟩
        generalize h6 : upd H5 t6 _ = H6
        obtain ⟨s6, e6⟩ := new_of h6 n6
        have s06 := s05.trans s6
        have ht6 : SqT K H6 t6 [.ref nw, .ref st] := .inl (.inl e6)
        refine ⟨t6, rfl, ⟨_, ht6⟩, ?_⟩
        refine for_it (walk_tup (K := K) (a := t6) (xs := [.ref nw, .ref st])) (fun i σ H' => Same H6 H' ∧ (1 ≤ i → asideB p n C L O r w1 = false) ∧ (2 ≤ i → asideB p n C L O r w2 = false) ∧ ∃ y10 : Option V, σ = [some (.int p), some (.int (n : Int)), some (.ref a), some (.ref b), some (.ref c), some (.ref l), some (.ref o), some (.ref l2), some (.ref nw), some (.ref st), y10]) ⟨Same.refl _, fun z => absurd z (by decide), fun z => absurd z (by decide), none, rfl⟩ (fun i σ H' _ hW => Same.tup hW.1 ht6) (fun i x σ H7' H7 hi hW hY => ?_) (fun σ H7 hW => ?_)
        · obtain ⟨rfl, hx⟩ := hY
          obtain ⟨s7, f1, f2, y10, rfl⟩ := hW
          have s07 := s06.trans s7
          have hi2 : i = 0 ∨ i = 1 := by
            have : i < 2 := hi
            omega
          rcases hi2 with rfl | rfl
          · have ex : x = .ref nw := (Option.some.inj hx).symm
            subst ex
            refine ⟨.int p, rfl, .ref a, rfl, .ref b, rfl, .ref nw, rfl, .ref a, b, nw, C, L, O, r, w1, p, n, rfl, dp_same s07 _ _ du, Same.tup s07 hb, Same.tup (s6.trans s7) hnw5, R, okw, fun H8 s8 => ⟨_, rfl, ?_⟩⟩
            cases ha1 : asideB p n C L O r w1 with
            | true =>
              rw [if_pos ha1] at hg
              exact iteT ⟨.ref nw, rfl, (q H8 (s07.trans s8)).2 nw w1 hbar (by rw [hgood, ← hg]) (Same.tup ((s6.trans s7).trans s8) hnw5)⟩
            | false => exact iteF ⟨s7.trans s8, fun _ => rfl, fun z => absurd z (by decide), _, rfl⟩
          · have ex : x = .ref st := (Option.some.inj hx).symm
            subst ex
            have ha1 := f1 (Nat.le_refl _)
            rw [if_neg (by rw [ha1]; decide)] at hg
            refine ⟨.int p, rfl, .ref a, rfl, .ref b, rfl, .ref st, rfl, .ref a, b, st, C, L, O, r, w2, p, n, rfl, dp_same s07 _ _ du, Same.tup s07 hb, Same.tup (s6.trans s7) hst, R, oks, fun H8 s8 => ⟨_, rfl, ?_⟩⟩
            cases ha2 : asideB p n C L O r w2 with
            | true =>
              rw [if_pos ha2] at hg
              exact iteT ⟨.ref st, rfl, (q H8 (s07.trans s8)).2 st w2 hbar (by rw [hgood, ← hg]) (Same.tup ((s6.trans s7).trans s8) hst)⟩
            | false => exact iteF ⟨s7.trans s8, fun _ => ha1, fun _ => rfl, _, rfl⟩
        · obtain ⟨s7, f1, f2, y10, rfl⟩ := hW
          rw [if_neg (by rw [f1 (show 1 ≤ 2 by decide)]; decide), if_neg (by rw [f2 (Nat.le_refl _)]; decide)] at hg
          have s07 := s06.trans s7
          refine ⟨.int p, rfl, .ref nw, rfl, .ref st, rfl, nw, st, w1, w2, p, rfl, Same.tup (s6.trans s7) hnw5, Same.tup (s6.trans s7) hst, by have := (pw.1 w1 mw).1; omega, by omega, fun H8 l8 s8 _ e8 => ?_⟩
          exact (q H8 (s07.trans s8)).2 l8 _ hbar (by rw [hgood, ← hg]) (.inl (.inl e8))
end
end OC
set_option Elab.async false
set_option linter.all false
set_option maxRecDepth 100000
set_option maxHeartbeats 4000000
namespace OC
open PySem PySem.Spec PyProof.Rows L2
section
variable {P : Program} {w : World} {K : PySem.W.Frag} {mg : Str → Option Value} {base : Heap}
def sp_names_of (K : PySem.W.Frag) : Sp := fun vs H Q _ => ∃ (v : V) (p : Int) (n : Nat) (kn : List (List Int)) (hs : List (Str × List (List Int))), vs = [v] ∧ Dp K H v (standD p n kn hs) ∧ hs.length ≤ 9 ∧
  ∀ H' l, Same H H' → H l = none → H' l = some (.tup ((hs.map Prod.fst).map V.str)) → Q (.ref l) H'
theorem ok_names_of (T : Top K mg) : Ok P w K mg base 1 "names_of" ["stand"] (sp_names_of K) := by
  refine T.d_names_of.ok sc_names_of (fun vs H Q E h => ?_) (fun f cdv A outer s H vs Q E hr h => ?_)
  · obtain ⟨v, p, n, kn, hs, rfl, _⟩ := h
    rfl
  · obtain ⟨v, p, n, kn, hs, rfl, dp, hm, q⟩ := h
    obtain ⟨a, k, g, wg, rfl, ha, hk, hg, dg⟩ := dp_stand dp
    have lg := dpAll_len dg
    rw [List.length_map] at lg
    refine ⟨_, ((pss_one (ps_ret (pe_callTy call_tuple_of (by rfl) T.b_tuple (by decide +kernel) (pa_cons (pe_lc (own := [("name", 1), ("room", 2)]) (g := gTup K 2 (gCons (gName 1) (gCons (gName 2) gNil))) (by rfl) sc_names_of.nd (pi_tup (pe_ix ix_tup (pv 0) pe_int (fun _ _ => rfl))) (blkOk_by (own := [("name", 1), ("room", 2)]) (N := N_names_of) (sc := defScope s_names_of) (by decide +kernel)) (fun _ _ _ _ _ => (pg_tup (by rfl) (pgs_cons (pg_name (i := 1) sc_names_of.nd rfl (.inl rfl)) (pgs_cons (pg_name (i := 2) sc_names_of.nd rfl (.inl rfl)) pgs_nil)))) (fun _ _ _ _ _ => pts_nil) (fun _ _ _ _ _ => (pv 1))) pa_nil))))), ?_⟩
    refine ⟨.ref a, rfl, a, _, 3, .ref g, rfl, rfl, ha, rfl, g, rfl, ⟨_, hg⟩, fun D nD => lc_it (walk_tup (K := K) (a := g) (xs := wg)) (fun i H' => Same H H' ∧ H' D = some (.lst (((hs.take i).map Prod.fst).map V.str))) ⟨same_upd nD, upd_same⟩ (fun i H' _ hP => Same.tup hP.1 hg) (fun i x H1 H2 hi hP hY => ?_) (fun H' hP => ?_)⟩
    · obtain ⟨rfl, hx⟩ := hY
      obtain ⟨s1, eD⟩ := hP
      obtain ⟨c, r, x, rfl, gx, mx, hc, hrr⟩ := dpAll_hand (dpAll_same s1 _ _ dg) hx
      refine ⟨c, _, rfl, hc, rfl, _, _, rfl, _, _, rfl, rfl, rfl, .str x.1, rfl, _, eD, ?_, same_mut s1 nD, ?_⟩
      · rw [List.length_map, List.length_map, List.length_take]
        exact small1000 (by omega)
      · rw [upd_same, List.take_add_one, gx, List.map_append, List.map_append]
        rfl
    · obtain ⟨s1, eD⟩ := hP
      rw [List.take_of_length_le (by omega)] at eD
      refine ⟨D, _, rfl, .inl ⟨.inl (.inl eD), fun l nl => ?_⟩⟩
      have s2 := same_upd (o := .tup ((hs.map Prod.fst).map V.str)) nl
      have nl' : H l = none := by
        cases hh : H l with
        | none => rfl
        | some o => rw [s1 _ _ hh] at nl; cases nl
      exact q _ l (s1.trans s2) nl' upd_same
def sp_check_hand (K : PySem.W.Frag) : Sp := fun vs H Q _ => ∃ (b : Addr) (ns : List Str) (x : Str), vs = [.ref b, .str x] ∧ SqT K H b (ns.map V.str) ∧ x ∈ ns ∧ Q .non H
theorem ok_check_hand (T : Top K mg) : Ok P w K mg base 1 "check_hand" ["there", "hand"] (sp_check_hand K) := by
  refine T.d_check_hand.ok sc_check_hand (fun vs H Q E h => ?_) (fun f cdv A outer s H vs Q E hr h => ?_)
  · obtain ⟨b, ns, x, rfl, _⟩ := h
    rfl
  · obtain ⟨b, ns, x, rfl, hb, hx, q⟩ := h
    refine ⟨_, ((pss_one (ps_if (pt_cmpR op_notIn_seq (pv 1) (pv 0) (by rfl))
        (pss_one ps_dead)
        pss_nil))), ?_⟩
    refine ⟨.str x, rfl, .ref b, rfl, b, _, rfl, .inr hb, rfl, flat_strs ns, _, rfl, ?_⟩
    rw [show (if true = true then !inV (V.str x) (ns.map V.str) else inV (V.str x) (ns.map V.str)) = !decide (x ∈ ns) by rw [if_pos rfl, in_strs], decide_eq_true hx]
    exact iteF q
def sp_check_row (K : PySem.W.Frag) : Sp := fun vs H Q _ => ∃ (a : Addr) (r : List Int) (p : Int) (n : Nat), vs = [.int p, .int (n : Int), .ref a] ∧ SqT K H a (r.map V.int) ∧ RowsOk p n [r] ∧ n ≤ 100 ∧ ∀ H', Same H H' → Q .non H'
theorem ok_check_row (T : Top K mg) : Ok P w K mg base 4 "check_row" ["p", "n", "row"] (sp_check_row K) := by
  have O_is_row := ok_is_row (P := P) (w := w) (base := base) T
  refine T.d_check_row.ok sc_check_row (fun vs H Q E h => ?_) (fun f cdv A outer s H vs Q E hr h => ?_)
  · obtain ⟨a, r, p, n, rfl, _⟩ := h
    rfl
  · obtain ⟨a, r, p, n, rfl, ha, okr, hn, q⟩ := h
    have ok' := okr r List.mem_cons_self
    have rp : RepAll K H NB [.ref a] [rowD r] := rep_rows (ws := [.ref a]) (rs := [r]) (.cons (.tup ha (dpAll_ints r)) .nil)
    have rp1 : Rep K H NB (.ref a) (rowD r) := by
      cases rp with
      | cons h _ => exact h
    refine ⟨_, ((pss_one (ps_if (pt_not (pt_val (pe_callO O_is_row (hr.mono (by omega)) (by rfl) (pa_cons (pv 0) (pa_cons (pv 1) (pa_cons (pv 2) pa_nil))))))
        (pss_one ps_dead)
        pss_nil))), ?_⟩
    refine ⟨.int p, rfl, .int n, rfl, .ref a, rfl, p, n, .ref a, rowD r, rfl, rp1, show (r.map PyData.int).length ≤ 1000 by rw [List.length_map]; omega, fun H1 s1 => ?_⟩
    rw [isRow_row ok']
    exact ⟨true, rfl, iteF (q H1 s1)⟩
def roomI (p : Int) (n : Nat) (kn : List (List Int)) (hs : List (Str × List (List Int))) (x : Str) : List (List Int) := plainR p n (kn ++ selR [x] hs)
theorem roomI_pf {p : Int} {n : Nat} {kn : List (List Int)} {hs : List (Str × List (List Int))} (G : StandR p n kn hs) (x : Str) : PFR p n (roomI p n kn hs x) := PFR.of_plain G.fld (rowsOk_app G.ok (sel_ok G.rm))
theorem G3 {p : Int} {n : Nat} {kn : List (List Int)} {hs : List (Str × List (List Int))} (G : StandR p n kn hs) (x y z : Str) {r : List Int} (hr : RowsOk p n [r]) : R3 p n (roomI p n kn hs x) (roomI p n kn hs y) (roomI p n kn hs z) r := ⟨G.fld, G.p1, G.n1, G.n8, roomI_pf G x, roomI_pf G y, roomI_pf G z, hr⟩
def sp_rooms3 (K : PySem.W.Frag) : Sp := fun vs H Q _ => ∃ (v : V) (x y z : Str) (p : Int) (n : Nat) (kn : List (List Int)) (hs : List (Str × List (List Int))), vs = [v, .str x, .str y, .str z] ∧ Dp K H v (standD p n kn hs) ∧ StandR p n kn hs ∧
  ∀ H' l, Same H H' → Dp K H' (.ref l) (r3D (roomI p n kn hs x) (roomI p n kn hs y) (roomI p n kn hs z)) → Q (.ref l) H'
theorem ok_rooms_of_three (T : Top K mg) : Ok P w K mg base 7 "rooms_of_three" ["stand", "caller", "learner", "other"] (sp_rooms3 K) := by
  have O_room_in := ok_room_in (P := P) (w := w) (base := base) T
  refine T.d_rooms_of_three.ok sc_rooms_of_three (fun vs H Q E h => ?_) (fun f cdv A outer s H vs Q E hr h => ?_)
  · obtain ⟨v, x, y, z, p, n, kn, hs, rfl, _⟩ := h
    rfl
  · obtain ⟨v, x, y, z, p, n, kn, hs, rfl, dp, G, q⟩ := h
    refine ⟨_, ((pss_one (ps_ret (pe_callTy call_tuple_of (by rfl) T.b_tuple (by decide +kernel) (pa_cons (pe_lc (own := [("name", 4)]) (g := gName 4) (by rfl) sc_rooms_of_three.nd (pi_tup (pe_tup (pa_cons (pv 1) (pa_cons (pv 2) (pa_cons (pv 3) pa_nil))))) (blkOk_by (own := [("name", 4)]) (N := N_rooms_of_three) (sc := defScope s_rooms_of_three) (by decide +kernel)) (fun _ _ _ _ _ => (pg_name (i := 4) sc_rooms_of_three.nd rfl (.inl rfl))) (fun _ _ _ _ _ => pts_nil) (fun _ _ _ _ _ => (pe_callO O_room_in (hr.mono (by omega)) (by rfl) (pa_cons (pv 0) (pa_cons (pe_tup (pa_cons (pv 4) pa_nil)) pa_nil))))) pa_nil))))), ?_⟩
    refine ⟨.str x, rfl, .str y, rfl, .str z, rfl, sz1000 (by decide : (3 : Nat) ≤ 1000), fun t nt => ?_⟩
    generalize h1 : upd H t _ = H1
    obtain ⟨s1, e1⟩ := new_of h1 nt
    have ht : SqT K H1 t ([x, y, z].map V.str) := .inl (.inl e1)
    refine ⟨t, rfl, ⟨_, ht⟩, fun D nD => lc_it (walk_tup (K := K) (a := t) (xs := [x, y, z].map V.str)) (fun k H' => Same H1 H' ∧ ∃ ws, H' D = some (.lst ws) ∧ ws.length = k ∧ DpAll K H' ws ((([x, y, z].take k).map (roomI p n kn hs)).map roomD)) ⟨same_upd nD, [], upd_same, rfl, .nil⟩ (fun k H' _ hP => Same.tup hP.1 ht) (fun k u H2 H3 hk hP hY => ?_) (fun H2 hP => ?_)⟩
    · obtain ⟨rfl, hu⟩ := hY
      obtain ⟨s2, ws, eD, lw, dw⟩ := hP
      rw [List.getElem?_map] at hu
      obtain ⟨nm, hnm, rfl⟩ := Option.map_eq_some_iff.mp hu
      rw [List.length_map] at hk
      have hk : k < 3 := hk
      refine ⟨rfl, v, rfl, .str nm, rfl, sz1000 (by decide : (1 : Nat) ≤ 1000), fun o no => ?_⟩
      generalize g1 : upd _ o _ = H4
      obtain ⟨t1, e4⟩ := new_of g1 no
      refine ⟨v, o, [nm], p, n, kn, hs, rfl, dp_same (s1.trans (s2.trans t1)) _ _ dp, .inl (.inl e4), G, fun H5 l5 s5 h5 => ?_⟩
      have eD5 := (t1.trans s5) _ _ eD
      have tk : Tk H5 (upd H5 D (.lst (ws ++ [.ref l5]))) := (Tk.refl _).mut eD5
      obtain ⟨w5, q5, d5⟩ := h5
      refine ⟨ws, eD5, small1000 (by omega), same_mut (s2.trans (t1.trans s5)) nD, ws ++ [.ref l5], upd_same, by rw [List.length_append, lw]; rfl, ?_⟩
      rw [List.take_add_one, hnm, List.map_append, List.map_append]
      exact dpAll_append (dpAll_tk ((Tk.of (t1.trans s5)).trans tk) _ _ (noL_rooms _) dw) (.cons (dp_tk tk _ _ (noL_room _) (.tup q5 d5)) .nil)
    · obtain ⟨s2, ws, eD, lw, dw⟩ := hP
      refine ⟨D, _, rfl, .inl ⟨.inl (.inl eD), fun l nl => ?_⟩⟩
      have s3 := same_upd (o := .tup ws) nl
      exact q _ l (s1.trans (s2.trans s3)) (.tup (.inl (.inl upd_same)) (dpAll_same s3 _ _ dw))
def sp_aside (K : PySem.W.Frag) : Sp := fun vs H Q _ => ∃ (v : V) (b : Addr) (x y z : Str) (r : List Int) (p : Int) (n : Nat) (kn : List (List Int)) (hs : List (Str × List (List Int))), vs = [v, .str x, .str y, .str z, .ref b] ∧ Dp K H v (standD p n kn hs) ∧ SqT K H b (r.map V.int) ∧ StandR p n kn hs ∧ RowsOk p n [r] ∧ (∀ u ∈ [x, y, z], u ∈ hs.map Prod.fst) ∧ hs.length ≤ 9 ∧ ¬ InR p (roomI p n kn hs y) r ∧ ¬ InR p (roomI p n kn hs z) r ∧
  ∀ H' t, Same H H' → (barredB p n (roomI p n kn hs x) (roomI p n kn hs y) (roomI p n kn hs z) r = true → Dp K H' (.ref t) (.tuple [.str "none", roomD (wayR p n (roomI p n kn hs x) (roomI p n kn hs y) r)]) → Q (.ref t) H') ∧
    ∀ c, barredB p n (roomI p n kn hs x) (roomI p n kn hs y) (roomI p n kn hs z) r = false → callR p n (roomI p n kn hs x) (roomI p n kn hs y) (roomI p n kn hs z) r = some c → Dp K H' (.ref t) (.tuple [.str "call", rowD c]) → Q (.ref t) H'
theorem ok_aside (T : Top K mg) : Ok P w K mg base 11 "aside" ["stand", "caller", "learner", "other", "row"] (sp_aside K) := by
  have O_names_of := ok_names_of (P := P) (w := w) (base := base) T
  have O_check_hand := ok_check_hand (P := P) (w := w) (base := base) T
  have O_check_row := ok_check_row (P := P) (w := w) (base := base) T
  have O_within := ok_within (P := P) (w := w) (base := base) T
  have O_room_in := ok_room_in (P := P) (w := w) (base := base) T
  have O_rooms_of_three := ok_rooms_of_three (P := P) (w := w) (base := base) T
  have O_call_aside := ok_call_aside (P := P) (w := w) (base := base) T
  have O_way_of := ok_way_of (P := P) (w := w) (base := base) T
  refine T.d_aside.ok sc_aside (fun vs H Q E h => ?_) (fun f cdv A outer s H vs Q E hr h => ?_)
  · obtain ⟨v, b, x, y, z, r, p, n, kn, hs, rfl, _⟩ := h
    rfl
  · obtain ⟨v, b, x, y, z, r, p, n, kn, hs, rfl, dp, hb, G, okr, mem, many, nL, nO, q⟩ := h
    obtain ⟨a, k, g, wg, rfl, ha, hk, hg, dg⟩ := dp_stand dp
    have F := G.fld
    have n8 := G.n8
    refine ⟨_, ((pss_cons (ps_asg (pe_slice sl_tupB (pv 0) po_none (po_some pe_int)) (pg_tup (by rfl) (pgs_cons (pg_name (i := 5) sc_aside.nd rfl (.inl rfl)) (pgs_cons (pg_name (i := 6) sc_aside.nd rfl (.inl rfl)) pgs_nil))))
      (pss_cons (ps_for PassesOwn.never (by rfl) (pi_tup (pe_tup (pa_cons (pv 1) (pa_cons (pv 2) (pa_cons (pv 3) pa_nil))))) (pg_name (i := 7) sc_aside.nd rfl (.inl rfl))
        (pss_one (ps_expr (pe_callO O_check_hand (hr.mono (by omega)) (by rfl) (pa_cons (pe_callO O_names_of (hr.mono (by omega)) (by rfl) (pa_cons (pv 0) pa_nil)) (pa_cons (pv 7) pa_nil))))))
      (pss_cons (ps_expr (pe_callO O_check_row (hr.mono (by omega)) (by rfl) (pa_cons (pv 5) (pa_cons (pv 6) (pa_cons (pv 4) pa_nil)))))
      (pss_cons (ps_for PassesOwn.never (by rfl) (pi_tup (pe_tup (pa_cons (pv 2) (pa_cons (pv 3) pa_nil)))) (pg_name (i := 7) sc_aside.nd rfl (.inl rfl))
        (pss_one (ps_if (pt_val (pe_callO O_within (hr.mono (by omega)) (by rfl) (pa_cons (pv 5) (pa_cons (pe_callO O_room_in (hr.mono (by omega)) (by rfl) (pa_cons (pv 0) (pa_cons (pe_tup (pa_cons (pv 7) pa_nil)) pa_nil))) (pa_cons (pv 4) pa_nil)))))
          (pss_one ps_dead)
          pss_nil)))
      (pss_cons (ps_set (i := 8) sc_aside.nd rfl (.inl rfl) (pe_callO O_rooms_of_three (hr.mono (by omega)) (by rfl) (pa_cons (pv 0) (pa_cons (pv 1) (pa_cons (pv 2) (pa_cons (pv 3) pa_nil))))))
      (pss_cons (ps_set (i := 9) sc_aside.nd rfl (.inl rfl) (pe_callO O_call_aside (hr.mono (by omega)) (by rfl) (pa_cons (pv 5) (pa_cons (pv 6) (pa_cons (pv 8) (pa_cons (pv 4) pa_nil))))))
      (pss_one (ps_ret (pe_ifExp (pt_cmpR op_isN (pv 9) pe_non (nomark _)) (pe_tup (pa_cons pe_str (pa_cons (pe_callO O_way_of (hr.mono (by omega)) (by rfl) (pa_cons (pv 5) (pa_cons (pv 6) (pa_cons (pv 8) (pa_cons (pv 4) pa_nil))))) pa_nil))) (pe_tup (pa_cons pe_str (pa_cons (pv 9) pa_nil))))))))))))), ?_⟩
    refine ⟨.ref a, rfl, _, rfl, a, _, rfl, ha, fun l1 H1 s1 h1 => ?_⟩
    rw [cut_upto (by decide)] at h1
    refine ⟨l1, [.int p, .int n], rfl, h1, rfl, _, _, rfl, _, _, rfl, rfl, ?_⟩
    refine ⟨.str x, rfl, .str y, rfl, .str z, rfl, sz1000 (by decide : (3 : Nat) ≤ 1000), fun t2 n2 => ?_⟩
    generalize h2 : upd H1 t2 _ = H2
    obtain ⟨s2, e2⟩ := new_of h2 n2
    have ht2 : SqT K H2 t2 ([x, y, z].map V.str) := .inl (.inl e2)
    have s02 := s1.trans s2
    refine ⟨t2, rfl, ⟨_, ht2⟩, for_it (walk_tup (K := K) (a := t2) (xs := [x, y, z].map V.str)) (fun i σ H' => Same H2 H' ∧ ∃ y7 : Option V, σ = [some (.ref a), some (.str x), some (.str y), some (.str z), some (.ref b), some (.int p), some (.int (n : Int)), y7, none, none]) ⟨Same.refl _, none, rfl⟩ (fun i σ H' _ hW => Same.tup hW.1 ht2) (fun i u σ H3' H3 hi hW hY => ?_) (fun σ H3 hW => ?_)⟩
    · obtain ⟨rfl, hu⟩ := hY
      obtain ⟨s3, y7, rfl⟩ := hW
      rw [List.getElem?_map] at hu
      obtain ⟨nm, hnm, rfl⟩ := Option.map_eq_some_iff.mp hu
      have s03 := s02.trans s3
      refine ⟨.ref a, rfl, .ref a, p, n, kn, hs, rfl, dp_same s03 _ _ dp, many, fun H4 l4 s4 _ h4 => ?_⟩
      exact ⟨.str nm, rfl, l4, _, nm, rfl, .inl (.inl h4), mem nm (List.mem_of_getElem? hnm), s3.trans s4, _, rfl⟩
    obtain ⟨s3, y7, rfl⟩ := hW
    have s03 := s02.trans s3
    refine ⟨.int p, rfl, .int n, rfl, .ref b, rfl, b, r, p, n, rfl, Same.tup s03 hb, okr, by omega, fun H4 s4 => ?_⟩
    have s04 := s03.trans s4
    refine ⟨.str y, rfl, .str z, rfl, sz1000 (by decide : (2 : Nat) ≤ 1000), fun t5 n5 => ?_⟩
    generalize h5 : upd H4 t5 _ = H5
    obtain ⟨s5, e5⟩ := new_of h5 n5
    have ht5 : SqT K H5 t5 ([y, z].map V.str) := .inl (.inl e5)
    have s05 := s04.trans s5
    refine ⟨t5, rfl, ⟨_, ht5⟩, for_it (walk_tup (K := K) (a := t5) (xs := [y, z].map V.str)) (fun i σ H' => Same H5 H' ∧ ∃ y7 : Option V, σ = [some (.ref a), some (.str x), some (.str y), some (.str z), some (.ref b), some (.int p), some (.int (n : Int)), y7, none, none]) ⟨Same.refl _, _, rfl⟩ (fun i σ H' _ hW => Same.tup hW.1 ht5) (fun i u σ H6' H6 hi hW hY => ?_) (fun σ H6 hW => ?_)⟩
    · obtain ⟨rfl, hu⟩ := hY
      obtain ⟨s6, y7, rfl⟩ := hW
      rw [List.getElem?_map] at hu
      obtain ⟨nm, hnm, rfl⟩ := Option.map_eq_some_iff.mp hu
      have s06 := s05.trans s6
      have nin : ¬ InR p (roomI p n kn hs nm) r := by
        have := List.mem_of_getElem? hnm
        simp only [List.mem_cons, List.not_mem_nil, or_false] at this
        rcases this with rfl | rfl
        · exact nL
        · exact nO
      refine ⟨.int p, rfl, .ref a, rfl, .str nm, rfl, sz1000 (by decide : (1 : Nat) ≤ 1000), fun o no => ?_⟩
      generalize g1 : upd _ o _ = H7
      obtain ⟨t1, e7⟩ := new_of g1 no
      refine ⟨.ref a, o, [nm], p, n, kn, hs, rfl, dp_same (s06.trans t1) _ _ dp, .inl (.inl e7), G, fun H8 l8 s8 h8 => ?_⟩
      have s68 := t1.trans s8
      refine ⟨.ref b, rfl, b, l8, _, r, p, n, rfl, h8, Same.tup (s06.trans s68) hb, roomI_pf G nm, okr, F, by omega, G.p1, fun H9 s9 => ⟨_, rfl, ?_⟩⟩
      have hf : hasR p n (plainR p n (kn ++ selR [nm] hs)) r = false := by
        cases hh : hasR p n (plainR p n (kn ++ selR [nm] hs)) r with
        | false => rfl
        | true => exact absurd ((has_pf F (roomI_pf G nm) okr).mp hh) nin
      rw [hf]
      exact iteF ⟨s6.trans (s68.trans s9), _, rfl⟩
    obtain ⟨s6, y7, rfl⟩ := hW
    have s06 := s05.trans s6
    refine ⟨.ref a, rfl, .str x, rfl, .str y, rfl, .str z, rfl, .ref a, x, y, z, p, n, kn, hs, rfl, dp_same s06 _ _ dp, G, fun H7 l7 s7 d7 => ?_⟩
    have s07 := s06.trans s7
    have R := G3 G x y z okr
    refine ⟨.int p, rfl, .int n, rfl, .ref l7, rfl, .ref b, rfl, .ref l7, b, _, _, _, r, p, n, rfl, d7, Same.tup s07 hb, R, nL, nO, fun H8 s8 => ⟨fun hbar => ?_, fun d c hbar hcall hd => ?_⟩⟩
    · have s08 := s07.trans s8
      refine ⟨.non, rfl, rfl, _, rfl, iteT ?_⟩
      refine ⟨.int p, rfl, .int n, rfl, .ref l7, rfl, .ref b, rfl, .ref l7, b, _, _, _, r, p, n, rfl, dp_same s8 _ _ d7, Same.tup s08 hb, R, fun H9 l9 s9 h9 => ?_⟩
      refine ⟨sz1000 (by decide : (2 : Nat) ≤ 1000), fun t10 n10 => ?_⟩
      have s10 := same_upd (o := .tup [.str "none", .ref l9]) n10
      obtain ⟨w9, q9, d9⟩ := RowsAt.same s10 h9
      exact (q _ t10 (s08.trans (s9.trans s10))).1 hbar (.tup (xs := [.str "none", .ref l9]) (.inl (.inl upd_same)) (.cons (.str _) (.cons (.tup q9 d9) .nil)))
    · have s08 := s07.trans s8
      refine ⟨.ref d, rfl, rfl, _, rfl, iteF ?_⟩
      refine ⟨.ref d, rfl, sz1000 (by decide : (2 : Nat) ≤ 1000), fun t10 n10 => ?_⟩
      have s10 := same_upd (o := .tup [.str "call", .ref d]) n10
      exact (q _ t10 (s08.trans s10)).2 c hbar hcall (.tup (xs := [.str "call", .ref d]) (.inl (.inl upd_same)) (.cons (.str _) (.cons (row_dp (Same.tup s10 hd)) .nil)))
end
end OC
set_option Elab.async false
set_option linter.all false
set_option maxRecDepth 100000
set_option maxHeartbeats 4000000
namespace OC
open PySem PySem.Spec PyProof.Rows L2
section
variable {P : Program} {w : World} {K : PySem.W.Frag} {mg : Str → Option Value} {base : Heap}
def sp_lmadeN (K : PySem.W.Frag) : Sp := fun vs H Q _ => ∃ (a b : Addr) (ws : List V) (rs : List (List Int)) (fs : List Int) (p : Int) (n : Nat), vs = [.int p, .int (n : Int), .ref a, .ref b] ∧ SqT K H a ws ∧ DpAll K H ws (rs.map rowD) ∧ SqL K H b (fs.map V.int) ∧ rs.length = fs.length ∧ 0 < p ∧ p ≤ 1000 ∧ n ≤ 100 ∧ (∀ r ∈ rs, r.length = n ∧ ∀ x ∈ r, 0 ≤ x ∧ x < 1000) ∧ (∀ f ∈ fs, 0 ≤ f ∧ f ≤ 1000) ∧
  ∀ H' l, Same H H' → H' l = some (.tup ((madeR p (List.replicate n 0) (rs.zip fs)).map V.int)) → Q (.ref l) H'
theorem ok__law_made_ofN (T : Top K mg) : Ok P w K mg base 1 "_law_made_of" ["_law_p", "_law_n", "_law_rows_here", "_law_factors"] (sp_lmadeN K) := by
  refine T.d__law_made_of.ok sc__law_made_of (fun vs H Q E h => ?_) (fun f cdv A outer s H vs Q E hr h => ?_)
  · obtain ⟨a, b, ws, rs, fs, p, n, rfl, _⟩ := h
    rfl
  · obtain ⟨a, b, ws, rs, fs, p, n, rfl, hA, hR, hB, hl, hp, hp2, hn, hln, hf, q⟩ := h
    have lw := rows_len hR
    refine ⟨_, ((pss_cons (ps_set (i := 4) sc__law_made_of.nd rfl (.inr rfl) (pe_op op_rep (pe_lst (pa_cons pe_int pa_nil)) (pv 1)))
      (pss_cons (ps_for PassesOwn.never (by rfl) (pi_zipN (by rfl) T.b_zip (pa_cons (pv 2) (pa_cons (pv 3) pa_nil))) (pg_tup (by rfl) (pgs_cons (pg_name (i := 5) sc__law_made_of.nd rfl (.inr rfl)) (pgs_cons (pg_name (i := 6) sc__law_made_of.nd rfl (.inr rfl)) pgs_nil)))
        (pss_one (ps_set (i := 4) sc__law_made_of.nd rfl (.inr rfl) (pe_lc (own := [("_law_k", 7)]) (g := gName 7) (by rfl) sc__law_made_of.nd (pi_range1 (by rfl) T.b_range (pa_cons (pv 1) pa_nil)) (blkOk_by (own := [("_law_k", 7)]) (N := N__law_made_of) (sc := defScope s__law_made_of) (by decide +kernel)) (fun _ _ _ _ _ => (pg_name (i := 7) sc__law_made_of.nd rfl (.inl rfl))) (fun _ _ _ _ _ => pts_nil) (fun _ _ _ _ _ => (pe_op op_mod (pe_op op_add (pe_ix (show IxR _ (rIxL K) from ix_list) (pv 4) (pv 7) (fun _ _ => rfl)) (pe_op op_mul (pv 6) (pe_ix (show IxR _ (rIxT K) from ix_tup) (pv 5) (pv 7) (fun _ _ => rfl)))) (pv 0)))))))
      (pss_one (ps_ret (pe_callTy call_tuple_of (by rfl) T.b_tuple (by decide +kernel) (pa_cons (pv 4) pa_nil))))))), ?_⟩
    refine ⟨sz1000 (by decide : (1 : Nat) ≤ 1000), fun z nz => ?_⟩
    generalize h1 : upd H z _ = H1
    obtain ⟨s1, e1⟩ := new_of h1 nz
    refine ⟨.int n, rfl, z, n, _, rfl, rfl, e1, by omega, by omega, Nat.le_of_lt (small1000 (by show 1 * ((n : Int)).toNat ≤ 1000; omega)), fun y ny => ?_⟩
    rw [show ((n : Int)).toNat = n from rfl, flat_noughts]
    generalize h2 : upd H1 y _ = H2
    obtain ⟨s2, e2⟩ := new_of h2 ny
    have s12 := s1.trans s2
    have hR2 := dpAll_same s12 _ _ hR
    refine ⟨.ref a, rfl, .ref b, rfl, a, b, _, _, rfl, Same.tup s12 hA, sql_same3 s12 hB, ?_⟩
    refine for_it (walk_zipN (K := K) (a := a) (b := b) (xs := ws) (ys := fs.map V.int) rfl) (fun i σ H' => Same H2 H' ∧ ∃ (l : Addr) (y5 y6 y7 : Option V), H' l = some (.lst ((madeR p (List.replicate n 0) ((rs.zip fs).take i)).map V.int)) ∧ σ = [some (.int p), some (.int (n : Int)), some (.ref a), some (.ref b), some (.ref l), y5, y6, y7]) ⟨Same.refl H2, y, none, none, none, e2, rfl⟩ (fun i σ H' _ hW => ⟨Same.tup (s12.trans hW.1) hA, sql_same3 (s12.trans hW.1) hB⟩) (fun i x0 σ H3 H4' hi hW hY => ?_) (fun σ H' hW => ?_)
    · obtain ⟨sm, l, y5, y6, y7, el, rfl⟩ := hW
      obtain ⟨Ta, x, f1, rfl, nT, rfl, g1, g2⟩ := hY
      have g1 : ws[i]? = some x := g1
      have g2 : (fs.map V.int)[i]? = some f1 := g2
      obtain ⟨c, r, rfl, gr, mr, hc⟩ := dpAll_row hR2 g1
      rw [List.getElem?_map] at g2
      obtain ⟨f, hfi, rfl⟩ := Option.map_eq_some_iff.mp g2
      have mf := hf f (List.mem_of_getElem? hfi)
      have sT : Same H3 (upd H3 Ta (.tup [.ref c, .int f])) := same_upd nT
      have hr1 := hln r mr
      have gz : (rs.zip fs)[i]? = some (r, f) := by
        rw [List.getElem?_zip_eq_some]
        exact ⟨gr, hfi⟩
      have ml : (madeR p (List.replicate n 0) ((rs.zip fs).take i)).length = n := made_len p n _ _ List.length_replicate fun x hx => (hln x.1 (List.of_mem_zip (List.mem_of_mem_take hx)).1).1
      have mb : ∀ x ∈ madeR p (List.replicate n 0) ((rs.zip fs).take i), 0 ≤ x ∧ x < p := made_bd hp _ _ (row_noughts' hp n).2
      have mt := made_take (p := p) (z := List.replicate n 0) gz
      generalize madeR p (List.replicate n 0) ((rs.zip fs).take i) = cur at el ml mb mt
      refine ⟨Ta, [.ref c, .int f], rfl, .inl (.inl upd_same), rfl, .ref c, [.int f], rfl, .int f, [], rfl, rfl, ?_⟩
      generalize hg4 : upd H3 Ta _ = H4 at sT
      have hc4 := Same.tup (sm.trans sT) hc
      have el4 := sT _ _ el
      refine ⟨.int n, rfl, n, rfl, by omega, by omega, fun D nD => ?_⟩
      rw [show ((n : Int)).toNat = n from rfl]
      refine lc_range (lo := 0) (n := n) (fun k H5 => Same H4 H5 ∧ H5 D = some (.lst (((plusR p cur r f).take k).map V.int))) ⟨same_upd nD, upd_same⟩ (fun k H5 hk hP => ?_) (fun H5 hP => ?_)
      · obtain ⟨s5, eD⟩ := hP
        have b1 := getD_lt hp mb k
        have b2 := getD_lt (by decide) hr1.2 k
        have b3 : 0 ≤ f * r.getD k 0 := Int.mul_nonneg mf.1 b2.1
        have b4 : f * r.getD k 0 ≤ 1000 * 1000 := Int.mul_le_mul mf.2 (by omega) b2.1 (by decide)
        refine ⟨rfl, .ref l, rfl, .int (0 + k), rfl, l, _, _, _, rfl, rfl, .inl (.inl (s5 _ _ el4)), by rw [show (0 : Int) + (k : Int) = (k : Int) by omega]; exact at_row (by omega), .int f, rfl, .ref c, rfl, .int (0 + k), rfl, c, _, _, _, rfl, rfl, Same.tup s5 hc4, by rw [show (0 : Int) + (k : Int) = (k : Int) by omega]; exact at_row (by omega), _, _, rfl, rfl, .inl ⟨by omega, by omega⟩, _, _, rfl, rfl, .int p, rfl, _, p, rfl, rfl, hp, _, eD, ?_, same_mut s5 nD, ?_⟩
        · rw [List.length_map, List.length_take]
          exact Nat.lt_of_le_of_lt (Nat.min_le_left _ _) (small1000 (by omega))
        · rw [upd_same, plus_at ml hr1.1 (by omega), List.map_append]
          rfl
      · obtain ⟨s5, eD⟩ := hP
        rw [List.take_of_length_le (by unfold plusR; rw [List.length_zipWith]; omega)] at eD
        refine ⟨(sm.trans sT).trans s5, D, _, _, _, ?_, rfl⟩
        rw [mt]
        exact eD
    · obtain ⟨sm, l, y5, y6, y7, el, rfl⟩ := hW
      rw [List.take_of_length_le (by rw [List.length_zip, List.length_map]; omega)] at el
      refine ⟨.ref l, rfl, l, _, rfl, .inl ⟨.inl (.inl el), fun o no => ?_⟩⟩
      generalize h5 : upd H' o _ = H5
      obtain ⟨s5, e5⟩ := new_of h5 no
      exact q H5 o ((s12.trans sm).trans s5) e5
def sp_cknown (K : PySem.W.Frag) : Sp := fun vs H Q _ => ∃ (d c a : Addr) (t p : Int) (x : Str) (n : Nat) (kn : List (List Int)) (hs : List (Str × List (List Int))), vs = [.ref d, .ref a, .str x] ∧ Deck H d c t ∧ t ≤ 800000 ∧ StandAt K H a p n kn hs ∧ StandR p n kn hs ∧
  ∀ H' l r t', Kept d c H H' → Deck H' d c t' → t' ≤ t + 20 → H' l = some (.tup (r.map V.int)) → RowsOk p n [r] → InR p (plainR p n (kn ++ selR [x] hs)) r → Q (.ref l) H'
theorem ok__law_known (T : Top K mg) : Ok P w K mg base 4 "_law_known" ["_law_deck_here", "_law_stand_here", "_law_name"] (sp_cknown K) := by
  have O__law_draw := ok__law_draw (P := P) (w := w) (base := base) T
  have O__law_room := ok__law_room (P := P) (w := w) (base := base) T
  have O__law_made_of := ok__law_made_ofN (P := P) (w := w) (base := base) T
  refine T.d__law_known.ok sc__law_known (fun vs H Q E h => ?_) (fun f cdv A outer s H vs Q E hr h => ?_)
  · obtain ⟨d, c, a, t, p, x, n, kn, hs, rfl, _⟩ := h
    rfl
  · obtain ⟨d, c, a, t, p, x, n, kn, hs, rfl, D0, ht, sa, G, q⟩ := h
    have n8 := G.n8
    have p2 := G.fld.1
    have p1 := G.p1
    refine ⟨_, ((pss_cons (ps_set (i := 3) sc__law_known.nd rfl (.inl rfl) (pe_callO O__law_room (hr.mono (by omega)) (by rfl) (pa_cons (pv 1) (pa_cons (pe_tup (pa_cons (pv 2) pa_nil)) pa_nil))))
      (pss_cons (ps_setLc (i := 5) (own := [("_law_row_here", 4)]) (g := gName 4) (by rfl) sc__law_known.nd rfl rfl (sw_true rfl rfl rfl (by decide +kernel)) (pi_tup (pv 3)) (blkOk_by (own := [("_law_row_here", 4)]) (N := N__law_known) (sc := defScope s__law_known) (by decide +kernel)) (fun _ _ _ _ _ => (pg_name (i := 4) sc__law_known.nd rfl (.inl rfl))) (fun _ _ _ _ _ => pts_nil) (fun _ _ _ _ _ => (pe_op op_mul (pe_callO O__law_draw (hr.mono (by omega)) (by rfl) (pa_cons (pv 0) (pa_cons (pe_ix (show IxR _ (rIxT K) from ix_tup) (pv 1) pe_int (fun _ _ => rfl)) pa_nil))) (pe_callTy call_int1 (by rfl) T.b_int (by decide +kernel) (pa_cons (pe_cmpR op_gt (pe_callO O__law_draw (hr.mono (by omega)) (by rfl) (pa_cons (pv 0) (pa_cons pe_int pa_nil))) pe_int (nomark _)) pa_nil)))))
      (pss_one (ps_ret (pe_callO O__law_made_of (hr.mono (by omega)) (by rfl) (pa_cons (pe_ix ix_tup (pv 1) pe_int (fun _ _ => rfl)) (pa_cons (pe_ix ix_tup (pv 1) pe_int (fun _ _ => rfl)) (pa_cons (pv 3) (pa_cons (pv 5) pa_nil)))))))))), ?_⟩
    refine ⟨.ref a, rfl, .str x, rfl, sz1000 (by decide : (1 : Nat) ≤ 1000), fun o no => ?_⟩
    generalize h1 : upd H o _ = H1
    obtain ⟨s1, e1⟩ := new_of h1 no
    refine ⟨.ref a, o, [x], p, n, kn, hs, rfl, (sa.same s1).dp, .inl (.inl e1), G, fun H2 l2 s2 r2 => ?_⟩
    have pf := PFR.of_plain G.fld (rowsOk_app G.ok (sel_ok (ns := [x]) G.rm))
    generalize plainR p n (kn ++ selR [x] hs) = R at r2 pf q
    obtain ⟨w2, h2, d2⟩ := r2
    have lR := PFR.len G.fld pf
    have lw := rows_len d2
    have s12 := s1.trans s2
    have D2 := D0.same s12
    have sa2 := sa.same s12
    refine ⟨.ref l2, rfl, l2, rfl, ⟨_, h2⟩, lc_drawnW (p := p) (t := t) (walk_tup (K := K) (a := l2) (xs := w2)) D2 (fun H' k' => Kept.tup D2 k' h2) (by omega) (fun _ => rfl) (fun v j t' H' Q' kH D' ht' hj hQ => ?_) (fun L H4 t4 fs k4 D4 ht4 nL eL lf bf => ?_)⟩
    · obtain ⟨_, _, _, ha, _⟩ := sa2.kept D2 kH
      refine ⟨.ref d, rfl, .ref a, rfl, a, _, 0, .int p, rfl, rfl, ha, rfl, d, c, t', p, rfl, D', by omega, by omega, by omega, fun Ha x ka Da x0 x1 => ?_⟩
      refine ⟨.ref d, rfl, d, c, _, 3, rfl, Da, by omega, by decide, by decide, fun Hb y kb Db y0 y1 => ⟨y, 0, rfl, rfl, .inr ⟨_, rfl, ?_⟩⟩⟩
      obtain ⟨w, ew, hw⟩ := some_of (c := y > 0)
      rw [ew]
      refine ⟨x, w, rfl, rfl, .inl ⟨by omega, by omega⟩, hQ Hb _ (x * w) (ka.trans kb) Db (by omega) (Int.mul_nonneg x0 (by omega)) ?_⟩
      rcases hw with e | e
      · rw [e]; omega
      · rw [e]; omega
    · obtain ⟨_, _, _, ha, _⟩ := sa2.kept D2 k4
      refine ⟨.ref a, rfl, a, _, 0, .int p, rfl, rfl, ha, rfl, .ref a, rfl, a, _, 1, .int n, rfl, rfl, ha, rfl, .ref l2, rfl, .ref L, rfl, l2, L, w2, R, fs, p, n, rfl, Kept.tup D2 k4 h2, dpAll_tk (Tk.kept D2 k4) _ _ (noL_rows R) d2, .inl (.inl eL), by omega, by omega, p1, by omega, fun r hr => ⟨(pf.1 r hr).1, fun x hx => by have := (pf.1 r hr).2 x hx; omega⟩, fun f hf => by have := bf f hf; omega, fun H5 l s5 e5 => ?_⟩
      exact q H5 l _ t4 ((Kept.of s12).trans (k4.trans (Kept.of s5))) (D4.same s5) (by omega) e5 (comb_ok G.fld pf) (comb_in pf (by omega))
end
end OC
set_option Elab.async false
set_option linter.all false
set_option maxRecDepth 100000
set_option maxHeartbeats 4000000
namespace OC
open PySem PySem.Spec PyProof.Rows L2
section
variable {P : Program} {w : World} {K : PySem.W.Frag} {mg : Str → Option Value} {base : Heap}
/-- what is asked about: a call, or a room -/
inductive Paper where
  | call (c : List Int)
  | none (R : List (List Int))
def Paper.d : Paper → PyData
  | .call c => .tuple [.str "call", rowD c]
  | .none R => .tuple [.str "none", roomD R]
def Paper.ok (p : Int) (n : Nat) : Paper → Prop
  | .call c => RowsOk p n [c]
  | .none R => PFR p n R
def Paper.holds (p : Int) (n : Nat) (C L O : List (List Int)) (r : List Int) : Paper → Bool
  | .call c => asideB p n C L O r c
  | .none R => decide (R = wayR p n C L r) && barredB p n C L O r
theorem paper_dp {K : PySem.W.Frag} {H : Hp} {v : V} {x : Str} {d : PyData} (h : Dp K H v (.tuple [.str x, d])) : ∃ a u, v = .ref a ∧ SqT K H a [.str x, u] ∧ Dp K H u d := by
  cases h with
  | tup h1 h2 =>
    cases h2 with
    | cons a1 h2 =>
      cases a1
      cases h2 with
      | cons a2 h2 =>
        cases h2
        exact ⟨_, _, rfl, h1, a2⟩
theorem dp_room {K : PySem.W.Frag} {H : Hp} {v : V} {R : List (List Int)} (h : Dp K H v (roomD R)) : ∃ a, v = .ref a ∧ RowsAt K H a R := by
  unfold roomD at h
  cases h with
  | tup h1 h2 => exact ⟨_, rfl, _, h1, h2⟩
theorem Stand5.toStandR {p : Int} {n : Nat} {kn : List (List Int)} {hs : List (Str × List (List Int))} (S : Stand5 p n kn hs) : StandR p n kn hs where
  fld := S.fld
  p1 := S.p1
  n1 := S.n1
  n8 := S.n8
  ok := S.pk.1
  lk := Nat.le_trans (PFR.len S.fld S.pk) S.n8
  many := S.many
  rm := fun x hx => (S.ph x hx).1
  lr := fun x hx => Nat.le_trans (PFR.len S.fld (S.ph x hx)) S.n8
theorem at_str {xs : List Str} {z : Int} (h0 : 0 ≤ z) (h1 : z < (xs.length : Int)) : ∃ x, x ∈ xs ∧ atI (xs.map V.str) z = some (.str x) := by
  have hl : z.toNat < xs.length := by omega
  exact ⟨xs[z.toNat], List.getElem_mem hl, at_of (j := z.toNat) (by omega) (by rw [List.getElem?_map, List.getElem?_eq_getElem hl]; rfl)⟩
theorem without_len {xs : List Str} (nd : xs.Nodup) {y : Str} (h : y ∈ xs) : (xs.filter fun v => decide (v ≠ y)).length = xs.length - 1 := by
  have e : (xs.filter fun v => decide (v ≠ y)) = xs.erase y := by
    rw [nd.erase_eq_filter]
    refine List.filter_congr fun v _ => ?_
    by_cases hv : v = y
    · subst hv; simp
    · simp [hv]
  rw [e, List.length_erase_of_mem h]
theorem within_isP {p : Int} {n : Nat} {R : List (List Int)} {r : List Int} {x : Bool} (F : Fld p) (pf : PFR p n R) (okr : RowsOk p n [r]) (h : x = true ↔ ∀ y ∈ leftR p R r, y = 0) : x = hasR p n R r := by
  rw [Bool.eq_iff_iff, h, OC.left_zero F pf okr (left_ok (by have := F.1; omega) R r pf.1 okr _ List.mem_cons_self).1, ← has_pf F pf okr]
/-- a case for an aside -/
structure CaseOk (p : Int) (n : Nat) (kn : List (List Int)) (hs : List (Str × List (List Int))) (x y z : Str) (r : List Int) : Prop where
  S : Stand5 p n kn hs
  p101 : p ≤ 101
  okr : RowsOk p n [r]
  mem : ∀ u ∈ [x, y, z], u ∈ hs.map Prod.fst
  nL : ¬ InR p (roomI p n kn hs y) r
  nO : ¬ InR p (roomI p n kn hs z) r
def sp_caside (K : PySem.W.Frag) : Sp := fun vs H Q _ => ∃ (d c : Addr) (t u wd : Int), vs = [.ref d, .int u, .int wd] ∧ Deck H d c t ∧ t ≤ 600000 ∧ 2 ≤ u ∧ u ≤ 9 ∧ 1 ≤ wd ∧ wd ≤ 8 ∧
  (∀ H' t', Kept d c H H' → Deck H' d c t' → t' ≤ t + 20000 → Q .non H') ∧
  ∀ H' l a b x y z r t' p (n : Nat) kn hs, Kept d c H H' → Deck H' d c t' → t' ≤ t + 20000 → H l = none → H' l = some (.lst [.ref a, .str x, .str y, .str z, .ref b]) → StandAt K H' a p n kn hs → SqT K H' b (r.map V.int) → CaseOk p n kn hs x y z r → (n : Int) ≤ wd → (hs.length : Int) ≤ u → Q (.ref l) H'
theorem ok__law_aside (T : Top K mg) : Ok P w K mg base 5 "_law_aside" ["_law_deck_here", "_law_limit", "_law_wide"] (sp_caside K) := by
  have O__law_draw := ok__law_draw (P := P) (w := w) (base := base) T
  have O__law_stand := ok__law_stand (P := P) (w := w) (base := base) T
  have O__law_row := ok__law_row (P := P) (w := w) (base := base) T
  have O__law_known := ok__law_known (P := P) (w := w) (base := base) T
  have O__law_room := ok__law_room (P := P) (w := w) (base := base) T
  have O__law_within := ok__law_within (P := P) (w := w) (base := base) T
  refine T.d__law_aside.ok sc__law_aside (fun vs H Q E h => ?_) (fun f cdv A outer s H vs Q E hr h => ?_)
  · obtain ⟨d, c, t, u, wd, rfl, _⟩ := h
    rfl
  · obtain ⟨d, c, t, u, wd, rfl, D0, ht, hu1, hu2, hw1, hw2, qn, q⟩ := h
    refine ⟨_, ((pss_cons (ps_for PassesOwn.never (by rfl) (pi_range1 (by rfl) T.b_range (pa_cons pe_int pa_nil)) (pg_name (i := 3) sc__law_aside.nd rfl (.inl rfl))
        (pss_cons (ps_set (i := 4) sc__law_aside.nd rfl (.inr rfl) (pe_callO O__law_stand (hr.mono (by omega)) (by rfl) (pa_cons (pv 0) (pa_cons (pv 1) (pa_cons (pv 2) pa_nil)))))
        (pss_cons (ps_setLc (i := 7) (own := [("_law_name", 5), ("_law_room_here", 6)]) (g := gTup K 2 (gCons (gName 5) (gCons (gName 6) gNil))) (by rfl) sc__law_aside.nd rfl rfl (sw_true rfl rfl rfl (by decide +kernel)) (pi_tup (pe_ix ix_tup (pv 4) pe_int (fun _ _ => rfl))) (blkOk_by (own := [("_law_name", 5), ("_law_room_here", 6)]) (N := N__law_aside) (sc := defScope s__law_aside) (by decide +kernel)) (fun _ _ _ _ _ => (pg_tup (by rfl) (pgs_cons (pg_name (i := 5) sc__law_aside.nd rfl (.inl rfl)) (pgs_cons (pg_name (i := 6) sc__law_aside.nd rfl (.inl rfl)) pgs_nil)))) (fun _ _ _ _ _ => pts_nil) (fun _ _ _ _ _ => (pv 5)))
        (pss_cons (ps_asg (pe_tup (pa_cons (pe_ix ix_list (pv 7) (pe_callO O__law_draw (hr.mono (by omega)) (by rfl) (pa_cons (pv 0) (pa_cons (pe_callB call_len_seq (by rfl) T.b_len (by decide +kernel) (pa_cons (pv 7) pa_nil)) pa_nil))) (fun _ _ => rfl)) (pa_cons (pe_ix ix_list (pv 7) (pe_callO O__law_draw (hr.mono (by omega)) (by rfl) (pa_cons (pv 0) (pa_cons (pe_callB call_len_seq (by rfl) T.b_len (by decide +kernel) (pa_cons (pv 7) pa_nil)) pa_nil))) (fun _ _ => rfl)) pa_nil))) (pg_tup (by rfl) (pgs_cons (pg_name (i := 8) sc__law_aside.nd rfl (.inl rfl)) (pgs_cons (pg_name (i := 9) sc__law_aside.nd rfl (.inr rfl)) pgs_nil))))
        (pss_cons (ps_set (i := 10) sc__law_aside.nd rfl (.inl rfl) (pe_ix ix_list (pe_lc (own := [("_law_name", 5)]) (g := gName 5) (by rfl) sc__law_aside.nd (pi_list (pv 7)) (blkOk_by (own := [("_law_name", 5)]) (N := N__law_aside) (sc := defScope s__law_aside) (by decide +kernel)) (fun _ _ _ _ _ => (pg_name (i := 5) sc__law_aside.nd rfl (.inl rfl))) (fun _ _ _ _ _ => (pts_one (pt_cmpR op_ne (pv 5) (pv 9) (nomark _)))) (fun _ _ _ _ _ => (pv 5))) (pe_callO O__law_draw (hr.mono (by omega)) (by rfl) (pa_cons (pv 0) (pa_cons (pe_op op_sub (pe_callB call_len_seq (by rfl) T.b_len (by decide +kernel) (pa_cons (pv 7) pa_nil)) pe_int) pa_nil))) (fun _ _ => rfl)))
        (pss_cons (ps_set (i := 11) sc__law_aside.nd rfl (.inr rfl) (pe_callO O__law_row (hr.mono (by omega)) (by rfl) (pa_cons (pv 0) (pa_cons (pe_ix ix_tup (pv 4) pe_int (fun _ _ => rfl)) (pa_cons (pe_ix ix_tup (pv 4) pe_int (fun _ _ => rfl)) pa_nil)))))
        (C8.pss_cut (ps_if (pt_cmpR op_gt (pe_callO O__law_draw (hr.mono (by omega)) (by rfl) (pa_cons (pv 0) (pa_cons pe_int pa_nil))) pe_int (nomark _))
          (pss_one (ps_set (i := 11) sc__law_aside.nd rfl (.inr rfl) (pe_callO O__law_known (hr.mono (by omega)) (by rfl) (pa_cons (pv 0) (pa_cons (pv 4) (pa_cons (pe_ix ix_list (pv 7) (pe_callO O__law_draw (hr.mono (by omega)) (by rfl) (pa_cons (pv 0) (pa_cons (pe_callB call_len_seq (by rfl) T.b_len (by decide +kernel) (pa_cons (pv 7) pa_nil)) pa_nil))) (fun _ _ => rfl)) pa_nil))))))
          pss_nil)
        (pss_cons (ps_setLc (i := 12) (own := [("_law_name", 5)]) (g := gName 5) (by rfl) sc__law_aside.nd rfl rfl (sw_true rfl rfl rfl (by decide +kernel)) (pi_tup (pe_tup (pa_cons (pv 9) (pa_cons (pv 10) pa_nil)))) (blkOk_by (own := [("_law_name", 5)]) (N := N__law_aside) (sc := defScope s__law_aside) (by decide +kernel)) (fun _ _ _ _ _ => (pg_name (i := 5) sc__law_aside.nd rfl (.inl rfl))) (fun _ _ _ _ _ => pts_nil) (fun _ _ _ _ _ => (pe_callO O__law_room (hr.mono (by omega)) (by rfl) (pa_cons (pv 4) (pa_cons (pe_tup (pa_cons (pv 5) pa_nil)) pa_nil)))))
        (pss_one (ps_if (pt_cmpR (op_eqNil hr.units) (pe_lc (own := [("_law_room_here", 6)]) (g := gName 6) (by rfl) sc__law_aside.nd (pi_list (pv 12)) (blkOk_by (own := [("_law_room_here", 6)]) (N := N__law_aside) (sc := defScope s__law_aside) (by decide +kernel)) (fun _ _ _ _ _ => (pg_name (i := 6) sc__law_aside.nd rfl (.inl rfl))) (fun _ _ _ _ _ => (pts_one (pt_val (pe_callO O__law_within (hr.mono (by omega)) (by rfl) (pa_cons (pe_ix (show IxR _ (rIxT K) from ix_tup) (pv 4) pe_int (fun _ _ => rfl)) (pa_cons (pv 6) (pa_cons (pv 11) pa_nil))))))) (fun _ _ _ _ _ => (pv 6))) (pe_lst pa_nil) (nomark _))
          (pss_one (ps_ret (pe_lst (pa_cons (pv 4) (pa_cons (pv 8) (pa_cons (pv 9) (pa_cons (pv 10) (pa_cons (pv 11) pa_nil))))))))
          pss_nil))))))))))
      (pss_one (ps_ret pe_non)))), ?_⟩
    refine ⟨6, rfl, by decide, by decide, for_range (lo := 0) (n := 6) (fun i σ H' => Kept d c H H' ∧ ∃ (t' : Int) (y3 y4 y5 y6 y7 y8 y9 y10 y11 y12 : Option V), Deck H' d c t' ∧ t' ≤ t + 3200 * i ∧ σ = [some (.ref d), some (.int u), some (.int wd), y3, y4, y5, y6, y7, y8, y9, y10, y11, y12]) ⟨Kept.refl _ _ _, t, none, none, none, none, none, none, none, none, none, none, D0, by omega, rfl⟩ (fun i σ H1 hi hW => ?_) (fun σ H1 hW => ?_)⟩
    · obtain ⟨k1, t1, y3, y4, y5, y6, y7, y8, y9, y10, y11, y12, D1, ht1, rfl⟩ := hW
      refine ⟨.ref d, rfl, .int u, rfl, .int wd, rfl, d, c, t1, u, wd, rfl, D1, by omega, hu1, hu2, hw1, hw2, fun H2 a t2 p n kn hs k2 D2 ht2 sa S p101 hn hm => ?_⟩
      have G := S.toStandR
      have few := S.few
      have n1 := S.n1
      have n8 := S.n8
      have F := S.fld
      have p2 := F.1
      obtain ⟨kk, g, wg, ha, hk, tg, dg⟩ := id sa
      have lg := dpAll_len dg
      rw [List.length_map] at lg
      have hg := tg.sq (K := K)
      refine ⟨.ref a, rfl, a, _, 3, .ref g, rfl, rfl, ha, rfl, g, rfl, ⟨_, hg⟩, fun L nL => lc_it (walk_tup (K := K) (a := g) (xs := wg)) (fun i H' => Same H2 H' ∧ H' L = some (.lst (((hs.take i).map Prod.fst).map V.str))) ⟨same_upd nL, upd_same⟩ (fun i H' _ hP => Same.tup hP.1 hg) (fun i x H1 H2' hi hP hY => ?_) (fun H3 hP => ?_)⟩
      · obtain ⟨rfl, hx⟩ := hY
        obtain ⟨s1, eD⟩ := hP
        obtain ⟨cc, r, x, rfl, gx, mx, hc, hrr⟩ := dpAll_hand (dpAll_same s1 _ _ dg) hx
        refine ⟨cc, _, rfl, hc, rfl, _, _, rfl, _, _, rfl, rfl, rfl, .str x.1, rfl, _, eD, ?_, same_mut s1 nL, ?_⟩
        · rw [List.length_map, List.length_map, List.length_take]
          exact small1000 (by omega)
        · rw [upd_same, List.take_add_one, gx, List.map_append, List.map_append]
          rfl
      obtain ⟨s3, e3⟩ := hP
      rw [List.take_of_length_le (by omega)] at e3
      have bL := D2.fresh nL
      have D3 := D2.same s3
      have ndx := S.nd
      have lxs : (hs.map Prod.fst).length = hs.length := List.length_map _
      generalize hxs : hs.map Prod.fst = xs at e3 ndx lxs
      have lmx : (xs.map V.str).length = xs.length := List.length_map _
      have keepL : ∀ {Hx Hy : Hp}, Kept d c Hx Hy → Hx L = some (.lst (xs.map V.str)) → Hy L = some (.lst (xs.map V.str)) := fun k e => k _ _ e (fun z => bL (.inl z)) (fun z => bL (.inr z))
      refine ⟨.ref L, rfl, .ref d, rfl, .ref L, rfl, L, _, rfl, .inl (.inl (.inl e3)), d, c, t2, _, rfl, D3, by omega, by omega, by omega, fun H4 z4 k4 D4 z40 z41 => ?_⟩
      obtain ⟨x, mx, hx⟩ := at_str (xs := xs) z40 (by omega)
      have e4 := keepL k4 e3
      refine ⟨L, _, z4, .str x, rfl, rfl, .inl (.inl e4), hx, ?_⟩
      refine ⟨.ref L, rfl, .ref d, rfl, .ref L, rfl, L, _, rfl, .inl (.inl (.inl e4)), d, c, _, _, rfl, D4, by omega, by omega, by omega, fun H5 z5 k5 D5 z50 z51 => ?_⟩
      obtain ⟨y, my, hy⟩ := at_str (xs := xs) z50 (by omega)
      have e5 := keepL k5 e4
      refine ⟨L, _, z5, .str y, rfl, rfl, .inl (.inl e5), hy, sz1000 (by decide : (2 : Nat) ≤ 1000), fun o no => ?_⟩
      generalize h6 : upd H5 o _ = H6
      obtain ⟨s6, e6⟩ := new_of h6 no
      refine ⟨o, _, rfl, .inl (.inl e6), rfl, _, _, rfl, _, _, rfl, rfl, ?_⟩
      have D6 := D5.same s6
      have eL6 := s6 _ _ e5
      refine ⟨.ref L, rfl, L, rfl, ⟨_, .inl (.inl eL6)⟩, fun M nM => lc_it (walk_list (K := K) (a := L) (xs := xs.map V.str)) (fun i H' => Same H6 H' ∧ H' M = some (.lst (((xs.take i).filter fun v => decide (v ≠ y)).map V.str))) ⟨same_upd nM, upd_same⟩ (fun i H' _ hP => .inl (.inl (hP.1 _ _ eL6))) (fun i v H1 H2' hi hP hY => ?_) (fun H7 hP => ?_)⟩
      · obtain ⟨rfl, hv⟩ := hY
        obtain ⟨s1, eM⟩ := hP
        rw [List.getElem?_map] at hv
        obtain ⟨v, hv', rfl⟩ := Option.map_eq_some_iff.mp hv
        have tkv : (xs.take (i + 1)).filter (fun v => decide (v ≠ y)) = (xs.take i).filter (fun v => decide (v ≠ y)) ++ (if v ≠ y then [v] else []) := by
          rw [List.take_add_one, hv', List.filter_append]
          congr 1
          by_cases h0 : v = y
          · simp [h0]
          · simp [h0]
        have ll : ((xs.take i).filter fun v => decide (v ≠ y)).length ≤ xs.length := Nat.le_trans (List.length_filter_le _ _) (by rw [List.length_take]; omega)
        refine ⟨rfl, .str v, rfl, .str y, rfl, rfl, _, rfl, ?_⟩
        by_cases h0 : v = y
        · refine iteNS (by rw [h0]) ⟨s1, ?_⟩
          rw [eM, tkv, if_neg (fun z => z h0), List.append_nil]
        · rw [show decide (V.str v = V.str y) = false from decide_eq_false fun z => h0 (V.str.inj z)]
          refine iteT ⟨.str v, rfl, _, eM, by rw [List.length_map]; exact small1000 (by omega), same_mut s1 nM, ?_⟩
          rw [upd_same, tkv, if_pos h0, List.map_append]
          rfl
      obtain ⟨s7, e7⟩ := hP
      rw [List.take_of_length_le (by rw [List.length_map]; exact Nat.le_refl _)] at e7
      have lwo := without_len ndx my
      have D7 := D6.same s7
      have bM := D6.fresh nM
      have eL7 := s7 _ _ eL6
      refine ⟨.ref d, rfl, .ref L, rfl, L, _, rfl, .inl (.inl (.inl eL7)), _, 1, rfl, rfl, d, c, _, _, rfl, D7, by omega, by omega, by omega, fun H8 z8 k8 D8 z80 z81 => ?_⟩
      obtain ⟨z, mz', hz⟩ := at_str (xs := xs.filter fun v => decide (v ≠ y)) z80 (by rw [lwo]; omega)
      have mz : z ∈ xs := (List.mem_filter.mp mz').1
      refine ⟨M, _, z8, .str z, rfl, rfl, .inl (.inl (k8 _ _ e7 (fun z => bM (.inl z)) (fun z => bM (.inr z)))), hz, ?_⟩
      have k28 : Kept d c H2 H8 := (Kept.of s3).trans (k4.trans (k5.trans ((Kept.of (s6.trans s7)).trans k8)))
      have sa8 := sa.kept D2 k28
      obtain ⟨_, _, _, ha8, _⟩ := id sa8
      refine ⟨.ref d, rfl, .ref a, rfl, a, _, 0, .int p, rfl, rfl, ha8, rfl, .ref a, rfl, a, _, 1, .int n, rfl, rfl, ha8, rfl, d, c, _, p, n, rfl, D8, by omega, by omega, by omega, n1, by omega, fun H9 b r t9 k9 D9 ht9 nb eb okr => ?_⟩
      have e9 := keepL ((Kept.of s7).trans (k8.trans k9)) eL6
      have sa9 := sa8.kept D8 k9
      refine ⟨fun σ' H' => Kept d c H9 H' ∧ ∃ (t' : Int) (b : Addr) (r : List Int), Deck H' d c t' ∧ t' ≤ t9 + 30 ∧ SqT K H' b (r.map V.int) ∧ RowsOk p n [r] ∧ σ' = [some (.ref d), some (.int u), some (.int wd), some (.int (0 + (i : Int))), some (.ref a), y5, y6, some (.ref L), some (.str x), some (.str y), some (.str z), some (.ref b), y12], ?_, fun σ10 H10 hM => ?_⟩
      · refine ⟨.ref d, rfl, d, c, t9, 3, rfl, D9, by omega, by decide, by decide, fun Ha za ka Da za0 za1 => ⟨za, 0, rfl, rfl, _, rfl, ite2 (fun _ => ?_) (fun _ => ?_)⟩⟩
        · have ea := keepL ka e9
          refine ⟨.ref d, rfl, .ref a, rfl, .ref L, rfl, .ref d, rfl, .ref L, rfl, L, _, rfl, .inl (.inl (.inl ea)), d, c, _, _, rfl, Da, by omega, by omega, by omega, fun Hb zb kb Db zb0 zb1 => ?_⟩
          obtain ⟨v, mv, hv⟩ := at_str (xs := xs) zb0 (by omega)
          refine ⟨L, _, zb, .str v, rfl, rfl, .inl (.inl (keepL kb ea)), hv, d, c, a, _, p, v, n, kn, hs, rfl, Db, by omega, sa9.kept D9 (ka.trans kb), G, fun Hc l r' tc kc Dc htc ec okr' _ => ?_⟩
          exact ⟨ka.trans (kb.trans kc), tc, l, r', Dc, by omega, .inl (.inl ec), okr', rfl⟩
        · exact ⟨ka, _, b, r, Da, by omega, Kept.tup D9 ka (.inl (.inl eb)), okr, rfl⟩
      obtain ⟨k10, t10, b10, r10, D10, ht10, hb10, ok10, rfl⟩ := hM
      clear okr eb nb
      have sa10 := sa9.kept D9 k10
      refine ⟨.str y, rfl, .str z, rfl, sz1000 (by decide : (2 : Nat) ≤ 1000), fun tt nt => ?_⟩
      generalize h11 : upd H10 tt _ = H11
      obtain ⟨s11, e11⟩ := new_of h11 nt
      have ht11 : SqT K H11 tt ([y, z].map V.str) := .inl (.inl e11)
      have sa11 := sa10.same s11
      refine ⟨tt, rfl, ⟨_, ht11⟩, fun N nN => lc_it (walk_tup (K := K) (a := tt) (xs := [y, z].map V.str)) (fun k H' => Same H11 H' ∧ ∃ ws, H' N = some (.lst ws) ∧ ws.length = k ∧ DpAll K H' ws ((([y, z].take k).map (roomI p n kn hs)).map roomD)) ⟨same_upd nN, [], upd_same, rfl, .nil⟩ (fun k H' _ hP => Same.tup hP.1 ht11) (fun k v H1 H2' hk' hP hY => ?_) (fun H12 hP => ?_)⟩
      · obtain ⟨rfl, hv⟩ := hY
        obtain ⟨s2, ws, eD, lw, dw⟩ := hP
        rw [List.getElem?_map] at hv
        obtain ⟨nm, hnm, rfl⟩ := Option.map_eq_some_iff.mp hv
        rw [List.length_map] at hk'
        have hk' : k < 2 := hk'
        refine ⟨rfl, .ref a, rfl, .str nm, rfl, sz1000 (by decide : (1 : Nat) ≤ 1000), fun o no => ?_⟩
        generalize g1 : upd _ o _ = H4
        obtain ⟨t1, e4⟩ := new_of g1 no
        refine ⟨.ref a, o, [nm], p, n, kn, hs, rfl, (sa11.same (s2.trans t1)).dp, .inl (.inl e4), G, fun H5 l5 s5 h5 => ?_⟩
        have eD5 := (t1.trans s5) _ _ eD
        have tk : Tk H5 (upd H5 N (.lst (ws ++ [.ref l5]))) := (Tk.refl _).mut eD5
        obtain ⟨w5, q5, d5⟩ := h5
        refine ⟨ws, eD5, small1000 (by omega), same_mut (s2.trans (t1.trans s5)) nN, ws ++ [.ref l5], upd_same, by rw [List.length_append, lw]; rfl, ?_⟩
        rw [List.take_add_one, hnm, List.map_append, List.map_append]
        exact dpAll_append (dpAll_tk ((Tk.of (t1.trans s5)).trans tk) _ _ (noL_rooms _) dw) (.cons (dp_tk tk _ _ (noL_room _) (.tup q5 d5)) .nil)
      obtain ⟨s12, wr, e12, lwr, dr⟩ := hP
      have dr : DpAll K H12 wr [roomD (roomI p n kn hs y), roomD (roomI p n kn hs z)] := dr
      have sa12 := sa11.same s12
      have D12 := (D10.same s11).same s12
      have hb12 := Same.tup (s11.trans s12) hb10
      have pY := roomI_pf G y
      have pZ := roomI_pf G z
      obtain ⟨_, _, _, ha12, _⟩ := id sa12
      refine ⟨.ref N, rfl, N, rfl, ⟨_, .inl (.inl e12)⟩, lc_filterD (K := K) (fun d => hasR p n (rowsD d) r10) (walk_list (K := K) (a := N) (xs := wr)) (fun H' s' => .inl (.inl (s' _ _ e12))) dr (noL_rooms [roomI p n kn hs y, roomI p n kn hs z]) (by rw [lwr]; show 2 ≤ 10000; decide) (fun _ => rfl) (show 6 < 13 by decide) (fun v dd Ha Q' md dv sa' hQ => ?_) (fun Z H13 wz s13 nZ eZ dZ => ?_)⟩
      · obtain ⟨R, pR, rfl⟩ : ∃ R, PFR p n R ∧ dd = roomD R := by
          rcases List.mem_cons.mp md with rfl | md
          · exact ⟨_, pY, rfl⟩
          · rw [List.mem_singleton.mp md]
            exact ⟨_, pZ, rfl⟩
        obtain ⟨rv, rfl, wv, hv, dv'⟩ := dp_room dv
        refine ⟨.ref a, rfl, a, _, 0, .int p, rfl, rfl, Same.tup sa' ha12, rfl, .ref rv, rfl, .ref b10, rfl, rv, b10, wv, R, r10, p, n, rfl, .inr hv, dv', Same.tup sa' hb12, pR.1, fun x hx => pR.fp_lt F x hx, ok10, by omega, by omega, n1, by omega, by have := PFR.len F pR; omega, fun Hb xb sb hxb => ⟨_, rfl, ?_⟩⟩
        have := hQ Hb sb
        rw [show rowsD (roomD R) = R from rowsD_rows R, ← within_isP F pR ok10 hxb] at this
        exact this
      refine ⟨Nat.zero_le _, fun e0 ne0 => ?_⟩
      generalize h14 : upd H13 e0 _ = H14
      obtain ⟨s14, e14⟩ := new_of h14 ne0
      have s1014 := s11.trans (s12.trans (s13.trans s14))
      have k014 : Kept d c H H14 := k1.trans (k2.trans (k28.trans (k9.trans (k10.trans (Kept.of s1014)))))
      have D14 := D10.same s1014
      refine ⟨Z, e0, wz, rfl, rfl, s14 _ _ eZ, e14, _, rfl, ite2 (fun hE => ?_) (fun _ => ?_)⟩
      · refine ⟨.ref a, rfl, .str x, rfl, .str y, rfl, .str z, rfl, .ref b10, rfl, sz1000 (by decide : (5 : Nat) ≤ 1000), fun l nl => ?_⟩
        generalize h15 : upd H14 l _ = H15
        obtain ⟨s15, e15⟩ := new_of h15 nl
        have wz0 : wz = [] := List.isEmpty_iff.mp hE
        rw [wz0] at dZ
        have fe : [roomD (roomI p n kn hs y), roomD (roomI p n kn hs z)].filter (fun d => hasR p n (rowsD d) r10) = [] := by
          generalize [roomD (roomI p n kn hs y), roomD (roomI p n kn hs z)].filter (fun d => hasR p n (rowsD d) r10) = ff at dZ
          cases dZ
          rfl
        have not_in : ∀ {R : List (List Int)}, PFR p n R → roomD R ∈ [roomD (roomI p n kn hs y), roomD (roomI p n kn hs z)] → ¬ InR p R r10 := fun {R} pR mR hi => by
          have := List.filter_eq_nil_iff.mp fe _ mR
          rw [show rowsD (roomD R) = R from rowsD_rows R] at this
          exact this ((has_pf F pR ok10).mpr hi)
        refine q H15 l a b10 x y z r10 t10 p n kn hs (k014.trans (Kept.of s15)) (D14.same s15) (by omega) (kept_none D14 k014 nl) e15 (sa10.same (s1014.trans s15)) (Same.tup (s1014.trans s15) hb10) ⟨S, p101, ok10, fun v hv => ?_, not_in pY (by simp), not_in pZ (by simp)⟩ hn hm
        rw [hxs]
        simp only [List.mem_cons, List.not_mem_nil, or_false] at hv
        rcases hv with rfl | rfl | rfl
        · exact mx
        · exact my
        · exact mz
      · exact ⟨k014, t10, _, _, _, _, _, _, _, _, _, _, D14, by omega, rfl⟩
    · obtain ⟨k1, t1, y3, y4, y5, y6, y7, y8, y9, y10, y11, y12, D1, ht1, rfl⟩ := hW
      exact qn H1 t1 k1 D1 (by omega)
end
end OC
set_option Elab.async false
set_option linter.all false
set_option maxRecDepth 100000
set_option maxHeartbeats 4000000
namespace OC
open PySem PySem.Spec PyProof.Rows L2
section
variable {P : Program} {w : World} {K : PySem.W.Frag} {mg : Str → Option Value} {base : Heap}
def Paper.word : Paper → Str
  | .call _ => "call"
  | .none _ => "none"
def Paper.told : Paper → PyData
  | .call c => rowD c
  | .none R => roomD R
def Paper.isNone : Paper → Bool
  | .call _ => false
  | .none _ => true
/-- the paper that is told -/
def paperR (p : Int) (n : Nat) (C L O : List (List Int)) (r : List Int) : Paper := if barredB p n C L O r = true then .none (wayR p n C L r) else .call ((callR p n C L O r).getD [])
theorem paper_good {p : Int} {n : Nat} {C L O : List (List Int)} {r : List Int} (F : Fld p) (hC : PFR p n C) (hL : PFR p n L) (hO : PFR p n O) (hr : RowsOk p n [r]) (nL : ¬ InR p L r) (nO : ¬ InR p O r) :
    (paperR p n C L O r).ok p n ∧ (paperR p n C L O r).holds p n C L O r = true ∧ barredB p n C L O r = (paperR p n C L O r).isNone := by
  unfold paperR
  cases hb : barredB p n C L O r with
  | true =>
    rw [if_pos rfl]
    refine ⟨way_pf F, ?_, rfl⟩
    simp only [Paper.holds, decide_true, Bool.true_and, hb]
  | false =>
    rw [if_neg (by decide)]
    obtain ⟨c, e, okc, hc⟩ := call_good F hC hL hO hr nL nO hb
    rw [e]
    exact ⟨okc, hc, rfl⟩
def sp_aside3 (K : PySem.W.Frag) : Sp := fun vs H Q _ => ∃ (v : V) (b : Addr) (x y z : Str) (r : List Int) (p : Int) (n : Nat) (kn : List (List Int)) (hs : List (Str × List (List Int))), vs = [v, .str x, .str y, .str z, .ref b] ∧ Dp K H v (standD p n kn hs) ∧ SqT K H b (r.map V.int) ∧ StandR p n kn hs ∧ RowsOk p n [r] ∧ (∀ u ∈ [x, y, z], u ∈ hs.map Prod.fst) ∧ hs.length ≤ 9 ∧ ¬ InR p (roomI p n kn hs y) r ∧ ¬ InR p (roomI p n kn hs z) r ∧
  ∀ H' t u, Same H H' → SqT K H' t [.str (paperR p n (roomI p n kn hs x) (roomI p n kn hs y) (roomI p n kn hs z) r).word, u] → Dp K H' u (paperR p n (roomI p n kn hs x) (roomI p n kn hs y) (roomI p n kn hs z) r).told → Q (.ref t) H'
theorem ok_aside3 (T : Top K mg) : Ok P w K mg base 11 "aside" ["stand", "caller", "learner", "other", "row"] (sp_aside3 K) := (ok_aside T).imp fun vs H Q E h => by
  obtain ⟨v, b, x, y, z, r, p, n, kn, hs, rfl, dp, hb, G, okr, mem, many, nL, nO, q⟩ := h
  refine ⟨v, b, x, y, z, r, p, n, kn, hs, rfl, dp, hb, G, okr, mem, many, nL, nO, fun H' t s => ⟨fun hbar d => ?_, fun c hbar hcall d => ?_⟩⟩
  · obtain ⟨a, u, ea, ha, du⟩ := paper_dp d
    cases ea
    have := q H' t u s
    unfold paperR at this
    rw [if_pos hbar] at this
    exact this ha du
  · obtain ⟨a, u, ea, ha, du⟩ := paper_dp d
    cases ea
    have := q H' t u s
    unfold paperR at this
    rw [if_neg (by rw [hbar]; decide), hcall] at this
    exact this ha du
end
end OC
set_option Elab.async false
set_option linter.all false
set_option maxRecDepth 100000
set_option maxHeartbeats 4000000
namespace OC
open PySem PySem.Spec PyProof.Rows L2
section
variable {P : Program} {w : World} {K : PySem.W.Frag} {mg : Str → Option Value} {base : Heap}
def sp_rising (K : PySem.W.Frag) : Sp := fun vs H Q _ => ∃ (a : Addr) (xs : List V) (ds : List PyData), vs = [.ref a] ∧ SqT K H a xs ∧ DpAll K H xs ds ∧ W.AllAlike ds ∧ (∀ d ∈ ds, d ≠ .none ∧ d.depth ≤ 60) ∧ xs.length ≤ 1000 ∧ ∀ H', Same H H' → Q (.bl (risD ds)) H'
theorem ok_is_rising (T : Top K mg) : Ok P w K mg base 1 "is_rising" ["things"] (sp_rising K) := by
  refine T.d_is_rising.ok sc_is_rising (fun vs H Q E h => ?_) (fun f cdv A outer s H vs Q E hr h => ?_)
  · obtain ⟨a, xs, ds, rfl, _⟩ := h
    rfl
  · obtain ⟨a, xs, ds, rfl, hA, hx, al, ne, l1, q⟩ := h
    refine ⟨_, ((pss_one (ps_ret (pe_callB (cr_all (by rfl)) (by rfl) T.b_all (by decide +kernel) (pa_cons (pe_lc (own := [("one", 1), ("other", 2)]) (g := gTup K 2 (gCons (gName 1) (gCons (gName 2) gNil))) (by rfl) sc_is_rising.nd (pi_zipB (by rfl) T.b_zip (pa_cons (pv 0) (pa_cons (pe_slice sl_tupB (pv 0) (po_some pe_int) po_none) pa_nil))) (blkOk_by (own := [("one", 1), ("other", 2)]) (N := N_is_rising) (sc := defScope s_is_rising) (by decide +kernel)) (fun _ _ _ _ _ => (pg_tup (by rfl) (pgs_cons (pg_name (i := 1) sc_is_rising.nd rfl (.inl rfl)) (pgs_cons (pg_name (i := 2) sc_is_rising.nd rfl (.inl rfl)) pgs_nil)))) (fun _ _ _ _ _ => pts_nil) (fun _ _ _ _ _ => (pe_cmpR (show OpR _ (compareOp .Lt) (rLtD K) from op_ltD hr.units) (pv 1) (pv 2) (nomark _)))) pa_nil))))), ?_⟩
    have lx := dpAll_len hx
    refine ⟨.ref a, rfl, .ref a, rfl, 1, rfl, a, _, rfl, hA, fun b1 H1 s1 hb1 => ?_⟩
    rw [cut1] at hb1
    have hA1 := Same.tup s1 hA
    refine ⟨a, b1, _, _, rfl, hb1, .inl ⟨hA1, fun D nD => ?_⟩⟩
    refine lc_it (walk_zipT (K := K) (a := a) (b := b1) (xs := xs) (ys := xs.drop 1) rfl) (fun k H' => Same H1 H' ∧ H' D = some (.lst (((List.zipWith W.dataLt ds (ds.drop 1)).take k).map V.bl))) ⟨same_upd nD, upd_same⟩ (fun k H' _ hP => ⟨Same.tup hP.1 hA1, Same.tup hP.1 hb1⟩) (fun k x H2 H3 hk hP hY => ?_) (fun H' hP => ?_)
    · obtain ⟨Ta, x1, y1, rfl, nT, rfl, e1, e2⟩ := hY
      obtain ⟨sm, eD⟩ := hP
      have sT : Same H2 (upd H2 Ta (.tup [x1, y1])) := same_upd nT
      have e1 : xs[k]? = some x1 := e1
      have e2 : (xs.drop 1)[k]? = some y1 := e2
      rw [List.getElem?_drop] at e2
      obtain ⟨d1, g1, m1, p1⟩ := dpAll_get hx e1
      obtain ⟨d2, g2, m2, p2⟩ := dpAll_get hx e2
      have sa := (s1.trans sm).trans sT
      refine ⟨Ta, [x1, y1], rfl, .inl (.inl upd_same), rfl, x1, [y1], rfl, y1, [], rfl, rfl, rfl, ?_⟩
      refine ⟨x1, rfl, y1, rfl, d1, d2, dp_same sa _ _ p1, dp_same sa _ _ p2, al _ m1 _ m2, (ne _ m1).1, (ne _ m1).2, ?_⟩
      refine ⟨_, sT _ _ eD, ?_, same_mut (sm.trans sT) nD, ?_⟩
      · rw [List.length_map, List.length_take, List.length_zipWith]
        exact small1000 (by omega)
      · have gd : (ds.drop 1)[k]? = some d2 := by rw [List.getElem?_drop]; exact g2
        rw [upd_same, List.take_add_one, List.getElem?_zipWith, g1, gd, List.map_append]
        rfl
    · obtain ⟨sm, eD⟩ := hP
      rw [List.take_of_length_le (by rw [List.length_zipWith, List.length_drop, List.length_drop]; omega)] at eD
      exact ⟨D, _, rfl, .inl (.inl eD), q H' (s1.trans sm)⟩
theorem lp1 {f : Str} {v : V} : (putF f v []).length < 1000 := Nat.lt_of_le_of_lt (length_putF _ _ _) (by decide)
theorem lp2 {f g : Str} {v u : V} : (putF g u (putF f v [])).length < 1000 := by
  have h1 := length_putF f v []
  have h2 := length_putF g u (putF f v [])
  simp only [List.length_nil] at h1
  omega
theorem lp3 {f g e : Str} {v u z : V} : (putF e z (putF g u (putF f v []))).length < 1000 := by
  have h1 := length_putF f v []
  have h2 := length_putF g u (putF f v [])
  have h3 := length_putF e z (putF g u (putF f v []))
  simp only [List.length_nil] at h1
  omega
theorem lp4 {f g e d : Str} {v u z y : V} : (putF d y (putF e z (putF g u (putF f v [])))).length < 1000 := by
  have h1 := length_putF f v []
  have h2 := length_putF g u (putF f v [])
  have h3 := length_putF e z (putF g u (putF f v []))
  have h4 := length_putF d y (putF e z (putF g u (putF f v [])))
  simp only [List.length_nil] at h1
  omega
def sp_moment (K : PySem.W.Frag) (mg : Str → Option Value) : Sp := fun vs H Q _ => ∃ (x dx c h : Addr) (p : Int) (n : Nat), vs = [.ref x, .int p, .int (n : Int), .ref c, .ref h] ∧ H x = some (.ins (adr mg "Moment") dx []) ∧
  ∀ H', (∀ a o, H a = some o → a ≠ x → H' a = some o) → H' x = some (.ins (adr mg "Moment") dx (momF p n c h)) → Q .non H'
theorem ok_Moment___init__ (T : Top K mg) : OkM P w K mg base 1 "Moment" "__init__" ["self", "p", "n", "called", "hands"] [] (sp_moment K mg) := by
  refine T.d_Moment___init__.ok sc_Moment___init__ (fun vs H Q E h => ?_) (fun f cdv A outer s H vs Q E hr h => ?_)
  · obtain ⟨x, dx, c, h, p, n, rfl, _⟩ := h
    rfl
  · obtain ⟨x, dx, c, hh, p, n, rfl, hx, q⟩ := h
    refine ⟨_, ((pss_cons (ps_fld (pv 0) (pv 1) (by rfl))
      (pss_cons (ps_fld (pv 0) (pv 2) (by rfl))
      (pss_cons (ps_fld (pv 0) (pv 3) (by rfl))
      (pss_one (ps_fld (pv 0) (pv 4) (by rfl))))))), ?_⟩
    refine ⟨.int p, rfl, .ref x, rfl, x, _, dx, _, rfl, hx, T.k_Moment.cl, T.na_Moment_p, by decide, ?_⟩
    refine ⟨.int n, rfl, .ref x, rfl, x, _, dx, _, rfl, upd_same, T.k_Moment.cl, T.na_Moment_n, lp1, ?_⟩
    refine ⟨.ref c, rfl, .ref x, rfl, x, _, dx, _, rfl, upd_same, T.k_Moment.cl, T.na_Moment_called, lp2, ?_⟩
    refine ⟨.ref hh, rfl, .ref x, rfl, x, _, dx, _, rfl, upd_same, T.k_Moment.cl, T.na_Moment_hands, lp3, ?_⟩
    refine q _ (fun a o e ne => ?_) upd_same
    rw [upd_ne ne, upd_ne ne, upd_ne ne, upd_ne ne]
    exact e
/-- a moment newly made -/
theorem mom_made {H H2 : Hp} {x dx c h : Addr} {m : Mom} (nx : H x = none) (ndx : H dx = none) (hc : RowsAt K H c m.called) (hh : Dp K H (.ref h) (.tuple (m.hands.map handD)))
    (k : ∀ a o, (upd (upd H dx (.own x)) x (.ins (adr mg "Moment") dx [])) a = some o → a ≠ x → H2 a = some o) (e : H2 x = some (.ins (adr mg "Moment") dx (momF m.p m.n c h))) : Same H H2 ∧ MomAt K mg H2 x m := by
  have s : Same H H2 := fun b o e => by
    have nb : b ≠ x := fun z => by rw [z, nx] at e; cases e
    have nd : b ≠ dx := fun z => by rw [z, ndx] at e; cases e
    refine k b o ?_ nb
    rw [upd_ne nb, upd_ne nd]
    exact e
  exact ⟨s, dx, c, h, e, RowsAt.same s hc, dp_same s _ _ hh⟩
theorem mom_hands {H : Hp} {h : Addr} {hs : List (Str × List (List Int))} (d : Dp K H (.ref h) (.tuple (hs.map handD))) : ∃ wg, SqT K H h wg ∧ DpAll K H wg (hs.map handD) ∧ wg.length = hs.length := by
  cases d with
  | tup a b =>
    have := dpAll_len b
    rw [List.length_map] at this
    exact ⟨_, a, b, this⟩
def sp_names_at (K : PySem.W.Frag) (mg : Str → Option Value) : Sp := fun vs H Q _ => ∃ (a : Addr) (m : Mom), vs = [.ref a] ∧ MomAt K mg H a m ∧ m.hands.length ≤ 100 ∧ ∀ H' l, Same H H' → SqT K H' l ((m.hands.map Prod.fst).map V.str) → Q (.ref l) H'
theorem ok_names_at (T : Top K mg) : Ok P w K mg base 1 "names_at" ["moment"] (sp_names_at K mg) := by
  refine T.d_names_at.ok sc_names_at (fun vs H Q E h => ?_) (fun f cdv A outer s H vs Q E hr h => ?_)
  · obtain ⟨a, m, rfl, _⟩ := h
    rfl
  · obtain ⟨a, m, rfl, ⟨dx, c, h, ea, hc, hh⟩, lm, q⟩ := h
    refine ⟨_, ((pss_one (ps_ret (pe_callTy call_tuple_of (by rfl) T.b_tuple (by decide +kernel) (pa_cons (pe_lc (own := [("name", 1), ("rows", 2)]) (g := gTup K 2 (gCons (gName 1) (gCons (gName 2) gNil))) (by rfl) sc_names_at.nd (pi_tup (pe_fld (pv 0) (by rfl))) (blkOk_by (own := [("name", 1), ("rows", 2)]) (N := N_names_at) (sc := defScope s_names_at) (by decide +kernel)) (fun _ _ _ _ _ => (pg_tup (by rfl) (pgs_cons (pg_name (i := 1) sc_names_at.nd rfl (.inl rfl)) (pgs_cons (pg_name (i := 2) sc_names_at.nd rfl (.inl rfl)) pgs_nil)))) (fun _ _ _ _ _ => pts_nil) (fun _ _ _ _ _ => (pv 1))) pa_nil))))), ?_⟩
    obtain ⟨wg, hg, dg, lg⟩ := mom_hands hh
    refine ⟨.ref a, rfl, a, _, dx, _, _, rfl, ea, T.k_Moment.cl, T.na_Moment_hands, momF_hands, h, rfl, ⟨_, hg⟩, fun D nD => lc_it (walk_tup (K := K) (a := h) (xs := wg)) (fun i H' => Same H H' ∧ H' D = some (.lst (((m.hands.take i).map Prod.fst).map V.str))) ⟨same_upd nD, upd_same⟩ (fun i H' _ hP => Same.tup hP.1 hg) (fun i x Ha Hb hi hP hY => ?_) (fun H3 hP => ?_)⟩
    · obtain ⟨rfl, hx⟩ := hY
      obtain ⟨s1, eD⟩ := hP
      obtain ⟨c', r, x, rfl, gx, mx, hc', hrr⟩ := dpAll_hand (dpAll_same s1 _ _ dg) hx
      refine ⟨c', _, rfl, hc', rfl, _, _, rfl, _, _, rfl, rfl, rfl, .str x.1, rfl, _, eD, ?_, same_mut s1 nD, ?_⟩
      · rw [List.length_map, List.length_map, List.length_take]
        exact small1000 (by omega)
      · rw [upd_same, List.take_add_one, gx, List.map_append, List.map_append]
        rfl
    · obtain ⟨s3, eD⟩ := hP
      rw [List.take_of_length_le (by omega)] at eD
      exact ⟨D, _, rfl, .inl ⟨.inl (.inl eD), fun l nl => q _ l (s3.trans (same_upd nl)) (.inl (.inl upd_same))⟩⟩
def sp_heard_at (K : PySem.W.Frag) (mg : Str → Option Value) : Sp := fun vs H Q _ => ∃ (a b : Addr) (m : Mom) (ns : List Str), vs = [.ref a, .ref b] ∧ MomAt K mg H a m ∧ SqT K H b (ns.map V.str) ∧ m.hands.length ≤ 9 ∧ (∀ h ∈ m.hands, h.2.length ≤ 1000) ∧
  ∀ H' l, Same H H' → RowsAt K H' l (heardM m ns) → Q (.ref l) H'
theorem ok_heard_at (T : Top K mg) : Ok P w K mg base 1 "heard_at" ["moment", "names"] (sp_heard_at K mg) := by
  refine T.d_heard_at.ok sc_heard_at (fun vs H Q E h => ?_) (fun f cdv A outer s H vs Q E hr h => ?_)
  · obtain ⟨a, b, m, ns, rfl, _⟩ := h
    rfl
  · obtain ⟨a, b, m, ns, rfl, ⟨dx, c, h, ea, hc, hh⟩, hb, lm, lh, q⟩ := h
    refine ⟨_, ((pss_cons (ps_if (pt_cmpR op_eq (pe_callB call_len_seq (by rfl) T.b_len (by decide +kernel) (pa_cons (pv 1) pa_nil)) pe_int (nomark _))
        (pss_one (ps_ret (pe_fld (pv 0) (by rfl))))
        pss_nil)
      (pss_cons (ps_set (i := 2) sc_heard_at.nd rfl (.inl rfl) (pe_lst pa_nil))
      (pss_cons (ps_for PassesOwn.never (by rfl) (pi_tup (pe_fld (pv 0) (by rfl))) (pg_tup (by rfl) (pgs_cons (pg_name (i := 3) sc_heard_at.nd rfl (.inl rfl)) (pgs_cons (pg_name (i := 4) sc_heard_at.nd rfl (.inl rfl)) pgs_nil)))
        (pss_one (ps_if (pt_cmpR op_in_seq (pv 3) (pv 1) (by rfl))
          (pss_one (ps_expr (pe_bm PySem.F.plainAttrs_list PySem.F.slot_list_extend PySem.F.type_list_extend mt_extT (pv 2) (pa_cons (pv 4) pa_nil))))
          pss_nil)))
      (pss_one (ps_ret (pe_callTy call_tuple_of (by rfl) T.b_tuple (by decide +kernel) (pa_cons (pv 2) pa_nil)))))))), ?_⟩
    obtain ⟨wg, hg, dg, lg⟩ := mom_hands hh
    refine ⟨.ref b, rfl, b, _, rfl, .inr hb, rfl, _, rfl, ?_⟩
    by_cases hn : ns = []
    · subst hn
      refine iteT ⟨.ref a, rfl, a, _, dx, _, _, rfl, ea, T.k_Moment.cl, T.na_Moment_called, momF_called, ?_⟩
      exact q H c (Same.refl H) hc
    · have ne : ¬ (V.int ((ns.map V.str).length : Int) = V.int 0) := fun z => by
        injection z with z
        rw [List.length_map] at z
        cases ns with
        | nil => exact hn rfl
        | cons x r => simp at z; omega
      rw [decide_eq_false ne]
      refine iteF ⟨Nat.zero_le _, fun L nL => ?_⟩
      generalize h1 : upd H L _ = H1
      obtain ⟨s1, e1⟩ := new_of h1 nL
      refine ⟨.ref a, rfl, a, _, dx, _, _, rfl, s1 _ _ ea, T.k_Moment.cl, T.na_Moment_hands, momF_hands, h, rfl, ⟨_, Same.tup s1 hg⟩, for_it (walk_tup (K := K) (a := h) (xs := wg)) (fun i σ H' => Same H H' ∧ ∃ (ws : List V) (y3 y4 : Option V), H' L = some (.lst ws) ∧ DpAll K H' ws ((selR ns (m.hands.take i)).map rowD) ∧ σ = [some (.ref a), some (.ref b), some (.ref L), y3, y4]) ⟨s1, [], none, none, e1, .nil, rfl⟩ (fun i σ H' _ hW => Same.tup hW.1 hg) (fun i x σ H2 H3 hi hW hY => ?_) (fun σ H2 hW => ?_)⟩
      · obtain ⟨rfl, hx⟩ := hY
        obtain ⟨s2, ws, y3, y4, eL, dl, rfl⟩ := hW
        obtain ⟨c', r, x, rfl, gx, mx, hc', hrr⟩ := dpAll_hand (dpAll_same s2 _ _ dg) hx
        refine ⟨c', _, rfl, hc', rfl, _, _, rfl, _, _, rfl, rfl, ?_⟩
        refine ⟨.str x.1, rfl, .ref b, rfl, b, _, rfl, .inr (Same.tup s2 hb), rfl, flat_strs ns, _, rfl, ?_⟩
        rw [show (if false = true then !inV (V.str x.1) (ns.map V.str) else inV (V.str x.1) (ns.map V.str)) = decide (x.1 ∈ ns) from in_strs x.1 ns]
        have st := sel_take (ns := ns) gx
        by_cases hn : x.1 ∈ ns
        · rw [decide_eq_true hn]
          rw [if_pos hn] at st
          obtain ⟨w2, hr1, hr2⟩ := hrr
          have l1 := rows_len dl
          have l2 := rows_len hr2
          have ls := sel_len (ns := ns) (B := 1000) (hs := m.hands.take i) (fun y hy => lh y (List.mem_of_mem_take hy))
          have ls9 : (selR ns (m.hands.take i)).length ≤ 1000 * 9 := Nat.le_trans ls (Nat.mul_le_mul_left 1000 (by rw [List.length_take]; omega))
          have lx := lh x mx
          have tk := (Tk.refl H3).mut eL (ys := ws ++ w2)
          refine iteT ⟨.ref L, rfl, .inl ⟨rfl, _, .inl (.inl eL)⟩, .ref r, rfl, L, r, ws, w2, rfl, rfl, eL, hr1, Nat.le_trans (show ws.length + w2.length ≤ 10000 by omega) (by decide), ?_⟩
          refine ⟨same_mut s2 nL, ws ++ w2, _, _, upd_same, ?_, rfl⟩
          rw [st, List.map_append]
          exact dpAll_append (dpAll_tk tk _ _ (noL_rows _) dl) (dpAll_tk tk _ _ (noL_rows _) hr2)
        · rw [decide_eq_false hn]
          rw [if_neg hn, List.append_nil] at st
          exact iteF ⟨s2, ws, _, _, eL, by rw [st]; exact dl, rfl⟩
      · obtain ⟨s2, ws, y3, y4, eL, dl, rfl⟩ := hW
        rw [List.take_of_length_le (by omega)] at dl
        refine ⟨.ref L, rfl, L, _, rfl, .inl ⟨.inl (.inl eL), fun l nl => ?_⟩⟩
        have s3 : Same H2 (upd H2 l (.tup ws)) := same_upd nl
        refine q _ l (s2.trans s3) ?_
        unfold heardM
        rw [if_neg hn]
        exact ⟨ws, .inl (.inl upd_same), dpAll_same s3 _ _ dl⟩
def sp_known_at (K : PySem.W.Frag) (mg : Str → Option Value) : Sp := fun vs H Q _ => ∃ (a b : Addr) (m : Mom) (ns : List Str), vs = [.ref a, .ref b] ∧ MomAt K mg H a m ∧ SqT K H b (ns.map V.str) ∧ MomOk 1000 m ∧
  ∀ H' l, Same H H' → RowsAt K H' l (plainR m.p m.n (heardM m ns)) → Q (.ref l) H'
theorem heard_ok {B : Nat} {m : Mom} (M : MomOk B m) (ns : List Str) : RowsOk m.p m.n (heardM m ns) := by
  unfold heardM
  split
  · exact M.okc
  · intro r hr
    obtain ⟨h, mh, hr⟩ := List.mem_flatMap.mp hr
    split at hr
    · exact M.okh h mh r hr
    · cases hr
theorem ok_known_at (T : Top K mg) : Ok P w K mg base 6 "known_at" ["moment", "names"] (sp_known_at K mg) := by
  have O_heard_at := ok_heard_at (P := P) (w := w) (base := base) T
  have O_room_of := ok_room_of (P := P) (w := w) (base := base) T
  refine T.d_known_at.ok sc_known_at (fun vs H Q E h => ?_) (fun f cdv A outer s H vs Q E hr h => ?_)
  · obtain ⟨a, b, m, ns, rfl, _⟩ := h
    rfl
  · obtain ⟨a, b, m, ns, rfl, ma, hb, M, q⟩ := h
    obtain ⟨dx, c, h, ea, hc, hh⟩ := id ma
    refine ⟨_, ((pss_one (ps_ret (pe_callO O_room_of (hr.mono (by omega)) (by rfl) (pa_cons (pe_fld (pv 0) (by rfl)) (pa_cons (pe_fld (pv 0) (by rfl)) (pa_cons (pe_callO O_heard_at (hr.mono (by omega)) (by rfl) (pa_cons (pv 0) (pa_cons (pv 1) pa_nil))) pa_nil))))))), ?_⟩
    refine ⟨.ref a, rfl, a, _, dx, _, _, rfl, ea, T.k_Moment.cl, T.na_Moment_p, momF_p, .ref a, rfl, a, _, dx, _, _, rfl, ea, T.k_Moment.cl, T.na_Moment_n, momF_n, ?_⟩
    refine ⟨.ref a, rfl, .ref b, rfl, a, b, m, ns, rfl, ma, hb, Nat.le_trans M.many (by decide), M.lh, fun H1 l s1 r1 => ?_⟩
    have n8 := M.n8
    exact ⟨l, heardM m ns, m.p, m.n, rfl, r1, heard_ok M ns, M.fld, M.n1, by omega, M.p1, fun H2 l2 s2 r2 => q H2 l2 (s1.trans s2) r2⟩
def sp_stand_at (K : PySem.W.Frag) (mg : Str → Option Value) : Sp := fun vs H Q _ => ∃ (a : Addr) (m : Mom), vs = [.ref a] ∧ MomAt K mg H a m ∧ MomOk 1000 m ∧ ∀ H' l, Same H H' → Dp K H' (.ref l) (standM m) → Q (.ref l) H'
theorem heard_one {B : Nat} {m : Mom} (M : MomOk B m) {h : Str × List (List Int)} (mh : h ∈ m.hands) : heardM m [h.1] = h.2 := by
  unfold heardM
  rw [if_neg (by simp)]
  exact sel_one M.nd mh
theorem ok_stand_at (T : Top K mg) : Ok P w K mg base 7 "stand_at" ["moment"] (sp_stand_at K mg) := by
  have O_names_at := ok_names_at (P := P) (w := w) (base := base) T
  have O_known_at := ok_known_at (P := P) (w := w) (base := base) T
  refine T.d_stand_at.ok sc_stand_at (fun vs H Q E h => ?_) (fun f cdv A outer s H vs Q E hr h => ?_)
  · obtain ⟨a, m, rfl, _⟩ := h
    rfl
  · obtain ⟨a, m, rfl, ma, M, q⟩ := h
    obtain ⟨dx, c, h, ea, hc, hh⟩ := id ma
    refine ⟨_, ((pss_cons (ps_set (i := 2) sc_stand_at.nd rfl (.inl rfl) (pe_callTy call_tuple_of (by rfl) T.b_tuple (by decide +kernel) (pa_cons (pe_lc (own := [("name", 1)]) (g := gName 1) (by rfl) sc_stand_at.nd (pi_tup (pe_callO O_names_at (hr.mono (by omega)) (by rfl) (pa_cons (pv 0) pa_nil))) (blkOk_by (own := [("name", 1)]) (N := N_stand_at) (sc := defScope s_stand_at) (by decide +kernel)) (fun _ _ _ _ _ => (pg_name (i := 1) sc_stand_at.nd rfl (.inl rfl))) (fun _ _ _ _ _ => pts_nil) (fun _ _ _ _ _ => (pe_tup (pa_cons (pv 1) (pa_cons (pe_callO O_known_at (hr.mono (by omega)) (by rfl) (pa_cons (pv 0) (pa_cons (pe_tup (pa_cons (pv 1) pa_nil)) pa_nil))) pa_nil))))) pa_nil)))
      (pss_one (ps_ret (pe_tup (pa_cons (pe_fld (pv 0) (by rfl)) (pa_cons (pe_fld (pv 0) (by rfl)) (pa_cons (pe_callO O_known_at (hr.mono (by omega)) (by rfl) (pa_cons (pv 0) (pa_cons (pe_tup pa_nil) pa_nil))) (pa_cons (pv 2) pa_nil))))))))), ?_⟩
    have many := M.many
    refine ⟨.ref a, rfl, a, m, rfl, ma, by omega, fun H1 l s1 h1 => ?_⟩
    refine ⟨l, rfl, ⟨_, h1⟩, fun D nD => lc_it (walk_tup (K := K) (a := l) (xs := (m.hands.map Prod.fst).map V.str)) (fun i H' => Same H1 H' ∧ ∃ ws : List V, H' D = some (.lst ws) ∧ ws.length = i ∧ DpAll K H' ws ((m.roomsM.take i).map handD)) ⟨same_upd nD, [], upd_same, rfl, .nil⟩ (fun i H' _ hP => Same.tup hP.1 h1) (fun i x Ha Hb hi hP hY => ?_) (fun H2 hP => ?_)⟩
    · obtain ⟨rfl, hx⟩ := hY
      obtain ⟨s2, ws, eD, lw, dl⟩ := hP
      rw [List.getElem?_map, List.getElem?_map] at hx
      obtain ⟨nm, hnm, rfl⟩ := Option.map_eq_some_iff.mp hx
      obtain ⟨hd, ghd, rfl⟩ := Option.map_eq_some_iff.mp hnm
      have mhd := List.mem_of_getElem? ghd
      have hi : i < m.hands.length := (List.getElem?_eq_some_iff.mp ghd).1
      refine ⟨rfl, .str hd.1, rfl, .ref a, rfl, .str hd.1, rfl, sz1000 (by decide : (1 : Nat) ≤ 1000), fun o no => ?_⟩
      generalize h3 : upd _ o _ = H3
      obtain ⟨s3, e3⟩ := new_of h3 no
      have s13 := s1.trans (s2.trans s3)
      refine ⟨a, o, m, [hd.1], rfl, ma.same s13, .inl (.inl e3), M, fun H4 l4 s4 r4 => ?_⟩
      rw [heard_one M mhd] at r4
      refine ⟨sz1000 (by decide : (2 : Nat) ≤ 1000), fun o2 no2 => ?_⟩
      generalize h5 : upd H4 o2 _ = H5
      obtain ⟨s5, e5⟩ := new_of h5 no2
      have s35 := s3.trans (s4.trans s5)
      have eD5 := s35 _ _ eD
      have tk := (Tk.refl H5).mut eD5 (ys := ws ++ [.ref o2])
      refine ⟨ws, eD5, small1000 (by omega), same_mut (s2.trans s35) nD, ws ++ [.ref o2], upd_same, by rw [List.length_append, lw]; rfl, ?_⟩
      have gr : m.roomsM[i]? = some (hd.1, plainR m.p m.n hd.2) := by
        unfold Mom.roomsM
        rw [List.getElem?_map, ghd]
        rfl
      rw [List.take_add_one, gr, List.map_append]
      obtain ⟨w4, hw4, dw4⟩ := RowsAt.same s5 r4
      exact dpAll_append (dpAll_tk tk _ _ (noL_hands _) (dpAll_same s35 _ _ dl)) (.cons (.tup (tk _ _ _ (.inl (.inl e5))) (.cons (.str _) (.cons (.tup (tk _ _ _ hw4) (dpAll_tk tk _ _ (noL_rows _) dw4)) .nil))) .nil)
    · obtain ⟨s2, ws, eD, lw, dl⟩ := hP
      have lr : m.roomsM.length = m.hands.length := by unfold Mom.roomsM; rw [List.length_map]
      rw [List.take_of_length_le (by rw [List.length_map, List.length_map]; omega)] at dl
      refine ⟨D, _, rfl, .inl ⟨.inl (.inl eD), fun t nt => ?_⟩⟩
      generalize h3 : upd H2 t _ = H3
      obtain ⟨s3, e3⟩ := new_of h3 nt
      have s13 := s1.trans (s2.trans s3)
      have ea3 := s13 _ _ ea
      refine ⟨.ref a, rfl, a, _, dx, _, _, rfl, ea3, T.k_Moment.cl, T.na_Moment_p, momF_p, .ref a, rfl, a, _, dx, _, _, rfl, ea3, T.k_Moment.cl, T.na_Moment_n, momF_n, ?_⟩
      refine ⟨.ref a, rfl, Nat.zero_le _, fun o no => ?_⟩
      generalize h4 : upd H3 o _ = H4
      obtain ⟨s4, e4⟩ := new_of h4 no
      refine ⟨a, o, m, [], rfl, ma.same (s13.trans s4), .inl (.inl e4), M, fun H5 l5 s5 r5 => ?_⟩
      refine ⟨.ref t, rfl, sz1000 (by decide : (4 : Nat) ≤ 1000), fun z nz => ?_⟩
      generalize h6 : upd H5 z _ = H6
      obtain ⟨s6, e6⟩ := new_of h6 nz
      have s36 := s4.trans (s5.trans s6)
      obtain ⟨w5, hw5, dw5⟩ := RowsAt.same s6 r5
      refine q H6 z (s13.trans s36) (.tup (.inl (.inl e6)) (.cons (.int _) (.cons (.int _) (.cons (.tup hw5 dw5) (.cons (.tup (.inl (.inl (s36 _ _ e3))) (dpAll_same (s3.trans s36) _ _ dl)) .nil)))))
/-- the letters that names are made of -/
def LT : Str := "abcdefghijklmnopqrstuvwxyz"
def okc (c : Nat) : Bool := !(Builtin.Str.occurrences LT ⟨#[c]⟩ 0 LT.length 1).isEmpty
def rInStr : V → V → Hp → VK → Prop := fun x y H Q => ∃ i j, x = .str i ∧ y = .str j ∧ Q (.bl (!(Builtin.Str.occurrences j i 0 j.length 1).isEmpty)) H
def nameB : PyData → Bool
  | .str z => (decide (1 ≤ z.length) && decide (z.length ≤ 8)) && z.cps.toList.all okc
  | _ => false
theorem okc_all : ∀ c ∈ List.range' 97 26, okc c = true := by decide +kernel
theorem nameB_ok {x : Str} (h : NameOk x) : nameB (.str x) = true := by
  simp only [nameB, Bool.and_eq_true, decide_eq_true_eq, List.all_eq_true]
  refine ⟨⟨h.1, h.2.1⟩, fun c hc => ?_⟩
  have := h.2.2 c hc
  exact okc_all c (List.mem_range'_1.mpr ⟨this.1, by omega⟩)
def sp_is_name (K : PySem.W.Frag) : Sp := fun vs H Q _ => ∃ (v : V) (d : PyData) (bad : Addr → Prop), vs = [v] ∧ Rep K H bad v d ∧ (∀ z, d = .str z → z.length ≤ 1000000) ∧ ∀ H', Same H H' → Q (.bl (nameB d)) H'
theorem ok_is_name (T : Top K mg) : Ok P w K mg base 1 "is_name" ["thing"] (sp_is_name K) := by
  refine T.d_is_name.ok sc_is_name (fun vs H Q E h => ?_) (fun f cdv A outer s H vs Q E hr h => ?_)
  · obtain ⟨v, d, bad, rfl, _⟩ := h
    rfl
  · obtain ⟨v, d, bad, rfl, rv, lz, q⟩ := h
    refine ⟨_, ((pss_one (ps_ret (pe_and (pe_callB call_isi (by rfl) T.b_isinstance (by decide +kernel) (pa_cons (pv 0) (pa_cons (pe_bltn (v := .ty "str") (u := .type "str") (by rfl) T.b_str (by decide +kernel) rfl) pa_nil))) (pe_and (pe_chain op_le op_le pe_int (pe_callB call_len_str (by rfl) T.b_len (by decide +kernel) (pa_cons (pv 0) pa_nil)) pe_int) (pe_one (pe_callB (cr_all (by rfl)) (by rfl) T.b_all (by decide +kernel) (pa_cons (pe_lc (own := [("sign", 1)]) (g := gName 1) (by rfl) sc_is_name.nd (pi_str (pv 0)) (blkOk_by (own := [("sign", 1)]) (N := N_is_name) (sc := defScope s_is_name) (by decide +kernel)) (fun _ _ _ _ _ => (pg_name (i := 1) sc_is_name.nd rfl (.inl rfl))) (fun _ _ _ _ _ => pts_nil) (fun _ _ _ _ _ => (pe_cmpR (show OpR _ (compareOp .In) rInStr from op_in_str) (pv 1) (pe_cstr T.c_LETTERS (by rfl)) (by rfl)))) pa_nil)))))))), ?_⟩
    refine ⟨v, rfl, v, .ty "str", _, _, _, rfl, .ty "str", rv.kd, kit_str _, _, rfl, ?_⟩
    by_cases hk : kdOf d = .str
    · obtain ⟨z, rfl⟩ : ∃ z, d = .str z := by cases d <;> first | exact ⟨_, rfl⟩ | cases hk
      cases rv
      have lz := lz z rfl
      rw [decide_eq_true hk]
      refine iteT ⟨.str z, rfl, z, rfl, Nat.le_trans lz (by decide), ?_⟩
      refine ⟨1, _, rfl, rfl, _, rfl, ?_⟩
      by_cases h1 : 1 ≤ z.length
      · rw [decide_eq_true (show (1 : Int) ≤ (z.length : Int) by omega)]
        refine iteT ⟨_, 8, rfl, rfl, _, rfl, ?_⟩
        by_cases h8 : z.length ≤ 8
        · rw [decide_eq_true (show (z.length : Int) ≤ 8 by omega)]
          have ls : z.cps.size ≤ 8 := h8
          refine iteT ⟨.str z, rfl, z, rfl, fun D nD => lc_it (walk_str (z := z)) (fun i H' => Same H H' ∧ H' D = some (.lst (((z.cps.toList.take i).map okc).map V.bl))) ⟨same_upd nD, upd_same⟩ (fun i H' _ hP => trivial) (fun i x Ha Hb hi hP hY => ?_) (fun H3 hP => ?_)⟩
          · obtain ⟨rfl, c, hc, rfl⟩ := hY
            obtain ⟨s1, eD⟩ := hP
            refine ⟨rfl, .str ⟨#[c]⟩, rfl, ⟨#[c]⟩, LT, rfl, rfl, _, eD, ?_, same_mut s1 nD, ?_⟩
            · rw [List.length_map, List.length_map, List.length_take]
              exact small1000 (by omega)
            · have g : z.cps.toList[i]? = some c := by rw [Array.getElem?_toList]; exact hc
              rw [upd_same, List.take_add_one, g, List.map_append, List.map_append]
              rfl
          · obtain ⟨s3, eD⟩ := hP
            rw [List.take_of_length_le (by simp)] at eD
            refine ⟨D, _, rfl, .inl (.inl eD), ?_⟩
            have := q H3 s3
            simp only [nameB] at this
            rw [decide_eq_true h1, decide_eq_true h8, Bool.true_and, Bool.true_and] at this
            rw [List.all_map]
            exact this
        · rw [decide_eq_false (show ¬ (z.length : Int) ≤ 8 by omega)]
          refine iteF ?_
          have := q H (Same.refl H)
          simp only [nameB] at this
          rw [decide_eq_false h8, Bool.and_false, Bool.false_and] at this
          exact this
      · rw [decide_eq_false (show ¬ (1 : Int) ≤ (z.length : Int) by omega)]
        refine iteF ⟨_, rfl, iteF ?_⟩
        have := q H (Same.refl H)
        simp only [nameB] at this
        rw [decide_eq_false h1, Bool.false_and, Bool.false_and] at this
        exact this
    · rw [decide_eq_false hk]
      refine iteF ?_
      have e : nameB d = false := by
        cases d <;> first | rfl | exact absurd rfl hk
      rw [e] at q
      exact q H (Same.refl H)
def sp_check_rowB (K : PySem.W.Frag) : Sp := fun vs H Q _ => ∃ (a : Addr) (r : List Int) (p : Int) (n : Nat), vs = [.int p, .int (n : Int), .ref a] ∧ SqT K H a (r.map V.int) ∧ RowsOk p n [r] ∧ r.length ≤ 1000 ∧ ∀ H', Same H H' → Q .non H'
theorem ok_check_rowB (T : Top K mg) : Ok P w K mg base 4 "check_row" ["p", "n", "row"] (sp_check_rowB K) := by
  have O_is_row := ok_is_row (P := P) (w := w) (base := base) T
  refine T.d_check_row.ok sc_check_row (fun vs H Q E h => ?_) (fun f cdv A outer s H vs Q E hr h => ?_)
  · obtain ⟨a, r, p, n, rfl, _⟩ := h
    rfl
  · obtain ⟨a, r, p, n, rfl, ha, ok, ln, q⟩ := h
    refine ⟨_, ((pss_one (ps_if (pt_not (pt_val (pe_callO O_is_row (hr.mono (by omega)) (by rfl) (pa_cons (pv 0) (pa_cons (pv 1) (pa_cons (pv 2) pa_nil))))))
        (pss_one ps_dead)
        pss_nil))), ?_⟩
    have lr := (ok r List.mem_cons_self).1
    refine ⟨.int p, rfl, .int n, rfl, .ref a, rfl, p, n, .ref a, rowD r, rfl, row_rep ha, ?_, fun H1 s1 => ⟨_, rfl, ?_⟩⟩
    · show (r.map PyData.int).length ≤ 1000
      rw [List.length_map]
      exact ln
    · rw [isRow_row (ok r List.mem_cons_self)]
      exact iteF (q H1 s1)
def sp_check_handB (K : PySem.W.Frag) : Sp := fun vs H Q _ => ∃ (b : Addr) (x : Str) (ns : List Str), vs = [.ref b, .str x] ∧ SqT K H b (ns.map V.str) ∧ x ∈ ns ∧ Q .non H
theorem ok_check_handB (T : Top K mg) : Ok P w K mg base 1 "check_hand" ["there", "hand"] (sp_check_handB K) := by
  refine T.d_check_hand.ok sc_check_hand (fun vs H Q E h => ?_) (fun f cdv A outer s H vs Q E hr h => ?_)
  · obtain ⟨b, x, ns, rfl, _⟩ := h
    rfl
  · obtain ⟨b, x, ns, rfl, hb, mx, q⟩ := h
    refine ⟨_, ((pss_one (ps_if (pt_cmpR op_notIn_seq (pv 1) (pv 0) (by rfl))
        (pss_one ps_dead)
        pss_nil))), ?_⟩
    refine ⟨.str x, rfl, .ref b, rfl, b, _, rfl, .inr hb, rfl, flat_strs ns, _, rfl, ?_⟩
    rw [show (if true = true then !inV (V.str x) (ns.map V.str) else inV (V.str x) (ns.map V.str)) = !decide (x ∈ ns) from congrArg (fun z => !z) (in_strs x ns), decide_eq_true mx]
    exact iteF q
theorem alike_names (ns : List Str) : W.AllAlike (ns.map PyData.str) := fun d hd d' hd' => by
  obtain ⟨x, _, rfl⟩ := List.mem_map.mp hd
  obtain ⟨y, _, rfl⟩ := List.mem_map.mp hd'
  rfl
def sp_are_names (K : PySem.W.Frag) : Sp := fun vs H Q _ => ∃ (b : Addr) (ns : List Str), vs = [.ref b] ∧ SqT K H b (ns.map V.str) ∧ (∀ x ∈ ns, NameOk x) ∧ ns.Pairwise sl ∧ ns.length ≤ 100 ∧ ∀ H', Same H H' → Q (.bl true) H'
theorem ok_are_names (T : Top K mg) : Ok P w K mg base 2 "are_names" ["thing"] (sp_are_names K) := by
  have O_is_name := ok_is_name (P := P) (w := w) (base := base) T
  have O_is_rising := ok_is_rising (P := P) (w := w) (base := base) T
  refine T.d_are_names.ok sc_are_names (fun vs H Q E h => ?_) (fun f cdv A outer s H vs Q E hr h => ?_)
  · obtain ⟨b, ns, rfl, _⟩ := h
    rfl
  · obtain ⟨b, ns, rfl, hb, nm, srt, l1, q⟩ := h
    refine ⟨_, ((pss_one (ps_ret (pe_and (pe_callB call_isi (by rfl) T.b_isinstance (by decide +kernel) (pa_cons (pv 0) (pa_cons (pe_bltn (v := .ty "tuple") (u := .type "tuple") (by rfl) T.b_tuple (by decide +kernel) rfl) pa_nil))) (pe_and (pe_callB (cr_all (by rfl)) (by rfl) T.b_all (by decide +kernel) (pa_cons (pe_lc (own := [("part", 1)]) (g := gName 1) (by rfl) sc_are_names.nd (pi_tup (pv 0)) (blkOk_by (own := [("part", 1)]) (N := N_are_names) (sc := defScope s_are_names) (by decide +kernel)) (fun _ _ _ _ _ => (pg_name (i := 1) sc_are_names.nd rfl (.inl rfl))) (fun _ _ _ _ _ => pts_nil) (fun _ _ _ _ _ => (pe_callO O_is_name (hr.mono (by omega)) (by rfl) (pa_cons (pv 1) pa_nil)))) pa_nil)) (pe_one (pe_callO O_is_rising (hr.mono (by omega)) (by rfl) (pa_cons (pv 0) pa_nil)))))))), ?_⟩
    refine ⟨.ref b, rfl, .ref b, .ty "tuple", _, _, _, rfl, .ty "tuple", kd_tup hb, kit_tuple _, _, rfl, iteT ?_⟩
    refine ⟨.ref b, rfl, b, rfl, ⟨_, hb⟩, fun D nD => lc_it (walk_tup (K := K) (a := b) (xs := ns.map V.str)) (fun i H' => Same H H' ∧ H' D = some (.lst ((List.replicate i true).map V.bl))) ⟨same_upd nD, upd_same⟩ (fun i H' _ hP => Same.tup hP.1 hb) (fun i x Ha Hb hi hP hY => ?_) (fun H3 hP => ?_)⟩
    · obtain ⟨rfl, hx⟩ := hY
      obtain ⟨s1, eD⟩ := hP
      rw [List.getElem?_map] at hx
      obtain ⟨x, gx, rfl⟩ := Option.map_eq_some_iff.mp hx
      have hi : i < ns.length := (List.getElem?_eq_some_iff.mp gx).1
      have nmx := nm x (List.mem_of_getElem? gx)
      refine ⟨rfl, .str x, rfl, .str x, .str x, NB, rfl, .str x, fun z hz => by injection hz with hz; rw [← hz]; exact Nat.le_trans nmx.2.1 (by decide), fun H4 s4 => ?_⟩
      rw [nameB_ok nmx]
      refine ⟨_, s4 _ _ eD, ?_, same_mut (s1.trans s4) nD, ?_⟩
      · rw [List.length_map, List.length_replicate]
        exact small1000 (by omega)
      · rw [upd_same, List.replicate_succ', List.map_append]
        rfl
    · obtain ⟨s3, eD⟩ := hP
      refine ⟨D, _, rfl, .inl (.inl eD), true, by simp, iteT ?_⟩
      refine ⟨.ref b, rfl, b, _, ns.map PyData.str, rfl, Same.tup s3 hb, dpAll_strs ns, alike_names ns, fun d hd => ?_, by rw [List.length_map]; omega, fun H4 s4 => ?_⟩
      · obtain ⟨x, _, rfl⟩ := List.mem_map.mp hd
        exact ⟨fun z => (nomatch z), by simp only [PyData.depth]; omega⟩
      · rw [(ris_strs ns).mpr srt]
        exact q H4 (s3.trans s4)
def sp_check_hands (K : PySem.W.Frag) : Sp := fun vs H Q _ => ∃ (a b : Addr) (ns ms : List Str) (k : Int), vs = [.ref a, .ref b, .int k] ∧ SqT K H a (ns.map V.str) ∧ SqT K H b (ms.map V.str) ∧ (∀ x ∈ ms, NameOk x) ∧ ms.Pairwise sl ∧ ms.length ≤ 100 ∧ k ≤ ms.length ∧ (∀ x ∈ ms, x ∈ ns) ∧ ∀ H', Same H H' → Q .non H'
theorem ok_check_hands (T : Top K mg) : Ok P w K mg base 3 "check_hands" ["there", "hands", "least"] (sp_check_hands K) := by
  have O_are_names := ok_are_names (P := P) (w := w) (base := base) T
  have O_check_hand := ok_check_handB (P := P) (w := w) (base := base) T
  refine T.d_check_hands.ok sc_check_hands (fun vs H Q E h => ?_) (fun f cdv A outer s H vs Q E hr h => ?_)
  · obtain ⟨a, b, ns, ms, k, rfl, _⟩ := h
    rfl
  · obtain ⟨a, b, ns, ms, k, rfl, ha, hb, nm, srt, l1, lk, inn, q⟩ := h
    refine ⟨_, ((pss_cons (ps_if (PW.pt (pw_or (pt_not (pt_val (pe_callO O_are_names (hr.mono (by omega)) (by rfl) (pa_cons (pv 1) pa_nil)))) (pw_or1 (pt_cmpR op_lt (pe_callB call_len_seq (by rfl) T.b_len (by decide +kernel) (pa_cons (pv 1) pa_nil)) (pv 2) (nomark _)))))
        (pss_one ps_dead)
        pss_nil)
      (pss_one (ps_for PassesOwn.never (by rfl) (pi_tup (pv 1)) (pg_name (i := 3) sc_check_hands.nd rfl (.inl rfl))
        (pss_one (ps_expr (pe_callO O_check_hand (hr.mono (by omega)) (by rfl) (pa_cons (pv 0) (pa_cons (pv 3) pa_nil))))))))), ?_⟩
    refine ⟨.ref b, rfl, b, ms, rfl, hb, nm, srt, l1, fun H1 s1 => ⟨_, rfl, iteF ?_⟩⟩
    have hb1 := Same.tup s1 hb
    refine ⟨.ref b, rfl, b, _, rfl, .inr hb1, .int k, rfl, _, _, rfl, rfl, _, rfl, ?_⟩
    rw [decide_eq_false (show ¬ (((ms.map V.str).length : Int) < k) by rw [List.length_map]; omega)]
    refine iteF ⟨.ref b, rfl, b, rfl, ⟨_, hb1⟩, for_it (walk_tup (K := K) (a := b) (xs := ms.map V.str)) (fun i σ H' => Same H H' ∧ ∃ y3 : Option V, σ = [some (.ref a), some (.ref b), some (.int k), y3]) ⟨s1, none, rfl⟩ (fun i σ H' _ hW => Same.tup hW.1 hb) (fun i x σ H2 H3 hi hW hY => ?_) (fun σ H2 hW => ?_)⟩
    · obtain ⟨rfl, hx⟩ := hY
      obtain ⟨s2, y3, rfl⟩ := hW
      rw [List.getElem?_map] at hx
      obtain ⟨x, gx, rfl⟩ := Option.map_eq_some_iff.mp hx
      exact ⟨.ref a, rfl, .str x, rfl, a, x, ns, rfl, Same.tup s2 ha, inn x (List.mem_of_getElem? gx), s2, _, rfl⟩
    · obtain ⟨s2, y3, rfl⟩ := hW
      exact q _ s2
/-- behind a call, behind a whisper -/
def callM (m : Mom) (r : List Int) : Mom := { m with called := m.called ++ [r], hands := m.hands.map fun h => (h.1, h.2 ++ [r]) }
def whisperM (m : Mom) (ns : List Str) (r : List Int) : Mom := { m with hands := m.hands.map fun h => if h.1 ∈ ns then (h.1, h.2 ++ [r]) else h }
theorem callM_names (m : Mom) (r : List Int) : (callM m r).hands.map Prod.fst = m.hands.map Prod.fst := by
  unfold callM
  rw [List.map_map]
  exact List.map_congr_left fun _ _ => rfl
theorem callM_ok {B : Nat} {m : Mom} {r : List Int} (M : MomOk B m) (ok : RowsOk m.p m.n [r]) : MomOk (B + 1) (callM m r) where
  fld := M.fld
  p1 := M.p1
  n1 := M.n1
  n8 := M.n8
  okc := rowsOk_app M.okc ok
  okh := fun h hh => by
    obtain ⟨x, mx, rfl⟩ := List.mem_map.mp hh
    exact rowsOk_app (M.okh x mx) ok
  inn := fun h hh z hz => by
    obtain ⟨x, mx, rfl⟩ := List.mem_map.mp hh
    rcases List.mem_append.mp hz with hz | hz
    · exact InR.left (M.inn x mx z hz)
    · exact InR.mem (List.mem_append_right _ hz)
  few := by unfold callM; rw [List.length_map]; exact M.few
  many := by unfold callM; rw [List.length_map]; exact M.many
  srt := by rw [callM_names]; exact M.srt
  nd := by rw [callM_names]; exact M.nd
  nm := by rw [callM_names]; exact M.nm
  lc := by
    have := M.lc
    unfold callM
    rw [List.length_append, List.length_singleton]
    omega
  lh := fun h hh => by
    obtain ⟨x, mx, rfl⟩ := List.mem_map.mp hh
    have := M.lh x mx
    rw [List.length_append, List.length_singleton]
    omega
/-- the tuple of hands, each changed -/
theorem made_mom {H : Hp} {c h : Addr} {m' : Mom} {Q : VK} (hc : RowsAt K H c m'.called) (hh : Dp K H (.ref h) (.tuple (m'.hands.map handD))) (q : ∀ H' a, Same H H' → MomAt K mg H' a m' → Q (.ref a) H') :
    ∀ x dx, H x = none → H dx = none → dx ≠ x → sp_moment K mg (.ref x :: ([.int m'.p, .int (m'.n : Int), .ref c, .ref h] ++ [])) (upd (upd H dx (.own x)) x (.ins (adr mg "Moment") dx [])) (fun v H2 => v = .non ∧ Q (.ref x) H2) E0 := fun x dx nx ndx ne => by
  refine ⟨x, dx, c, h, m'.p, m'.n, rfl, upd_same, fun H' k e => ⟨rfl, ?_⟩⟩
  obtain ⟨s, at'⟩ := mom_made (m := m') nx ndx hc hh k e
  exact q H' x s at'
def sp_after_call (K : PySem.W.Frag) (mg : Str → Option Value) : Sp := fun vs H Q _ => ∃ (a b : Addr) (x : Str) (r : List Int) (m : Mom), vs = [.ref a, .str x, .ref b] ∧ MomAt K mg H a m ∧ MomOk 900 m ∧ SqT K H b (r.map V.int) ∧ RowsOk m.p m.n [r] ∧ x ∈ m.hands.map Prod.fst ∧ hasR m.p m.n (plainR m.p m.n (heardM m [x])) r = true ∧
  ∀ H' a', Same H H' → MomAt K mg H' a' (callM m r) → Q (.ref a') H'
theorem ok_after_call (T : Top K mg) : Ok P w K mg base 7 "after_call" ["moment", "hand", "row"] (sp_after_call K mg) := by
  have O_check_hand := ok_check_handB (P := P) (w := w) (base := base) T
  have O_names_at := ok_names_at (P := P) (w := w) (base := base) T
  have O_check_row := ok_check_rowB (P := P) (w := w) (base := base) T
  have O_within := ok_within (P := P) (w := w) (base := base) T
  have O_known_at := ok_known_at (P := P) (w := w) (base := base) T
  have O_Moment___init__ := ok_Moment___init__ (P := P) (w := w) (base := base) T
  refine T.d_after_call.ok sc_after_call (fun vs H Q E h => ?_) (fun f cdv A outer s H vs Q E hr h => ?_)
  · obtain ⟨a, b, x, r, m, rfl, _⟩ := h
    rfl
  · obtain ⟨a, b, x, r, m, rfl, ma, M, hb, ok, mx, has, q⟩ := h
    obtain ⟨dx, c, h, ea, hc, hh⟩ := id ma
    refine ⟨_, ((pss_cons (ps_expr (pe_callO O_check_hand (hr.mono (by omega)) (by rfl) (pa_cons (pe_callO O_names_at (hr.mono (by omega)) (by rfl) (pa_cons (pv 0) pa_nil)) (pa_cons (pv 1) pa_nil))))
      (pss_cons (ps_expr (pe_callO O_check_row (hr.mono (by omega)) (by rfl) (pa_cons (pe_fld (pv 0) (by rfl)) (pa_cons (pe_fld (pv 0) (by rfl)) (pa_cons (pv 2) pa_nil)))))
      (pss_cons (ps_if (pt_not (pt_val (pe_callO O_within (hr.mono (by omega)) (by rfl) (pa_cons (pe_fld (pv 0) (by rfl)) (pa_cons (pe_callO O_known_at (hr.mono (by omega)) (by rfl) (pa_cons (pv 0) (pa_cons (pe_tup (pa_cons (pv 1) pa_nil)) pa_nil))) (pa_cons (pv 2) pa_nil))))))
        (pss_one ps_dead)
        pss_nil)
      (pss_cons (ps_set (i := 5) sc_after_call.nd rfl (.inl rfl) (pe_callTy call_tuple_of (by rfl) T.b_tuple (by decide +kernel) (pa_cons (pe_lc (own := [("name", 3), ("rows", 4)]) (g := gTup K 2 (gCons (gName 3) (gCons (gName 4) gNil))) (by rfl) sc_after_call.nd (pi_tup (pe_fld (pv 0) (by rfl))) (blkOk_by (own := [("name", 3), ("rows", 4)]) (N := N_after_call) (sc := defScope s_after_call) (by decide +kernel)) (fun _ _ _ _ _ => (pg_tup (by rfl) (pgs_cons (pg_name (i := 3) sc_after_call.nd rfl (.inl rfl)) (pgs_cons (pg_name (i := 4) sc_after_call.nd rfl (.inl rfl)) pgs_nil)))) (fun _ _ _ _ _ => pts_nil) (fun _ _ _ _ _ => (pe_tup (pa_cons (pv 3) (pa_cons (pe_op (show OpR _ (binaryOp .Add) (rCatB K) from op_catB) (pv 4) (pe_tup (pa_cons (pv 2) pa_nil))) pa_nil))))) pa_nil)))
      (pss_one (ps_ret (pe_makeO O_Moment___init__ T.k_Moment (hr.mono (by omega)) (by rfl) (pa_cons (pe_fld (pv 0) (by rfl)) (pa_cons (pe_fld (pv 0) (by rfl)) (pa_cons (pe_op op_catB (pe_fld (pv 0) (by rfl)) (pe_tup (pa_cons (pv 2) pa_nil))) (pa_cons (pv 5) pa_nil)))))))))))), ?_⟩
    have many := M.many
    have n8 := M.n8
    have M1 := M.mono (show 900 ≤ 1000 by decide)
    have F1 : ∀ {H' : Hp}, Same H H' → H' a = some (.ins (adr mg "Moment") dx (momF m.p m.n c h)) := fun s => s _ _ ea
    refine ⟨.ref a, rfl, a, m, rfl, ma, by omega, fun H1 l1 s1 h1 => ?_⟩
    refine ⟨.str x, rfl, l1, x, _, rfl, h1, mx, ?_⟩
    refine ⟨.ref a, rfl, a, _, dx, _, _, rfl, F1 s1, T.k_Moment.cl, T.na_Moment_p, momF_p, .ref a, rfl, a, _, dx, _, _, rfl, F1 s1, T.k_Moment.cl, T.na_Moment_n, momF_n, .ref b, rfl, ?_⟩
    have lr := (ok r List.mem_cons_self).1
    refine ⟨b, r, m.p, m.n, rfl, Same.tup s1 hb, ok, by omega, fun H2 s2 => ?_⟩
    have s12 := s1.trans s2
    refine ⟨.ref a, rfl, a, _, dx, _, _, rfl, F1 s12, T.k_Moment.cl, T.na_Moment_p, momF_p, .ref a, rfl, .str x, rfl, sz1000 (by decide : (1 : Nat) ≤ 1000), fun o no => ?_⟩
    generalize h3 : upd H2 o _ = H3
    obtain ⟨s3, e3⟩ := new_of h3 no
    refine ⟨a, o, m, [x], rfl, ma.same (s12.trans s3), .inl (.inl e3), M1, fun H4 l4 s4 r4 => ?_⟩
    have s14 := s12.trans (s3.trans s4)
    refine ⟨.ref b, rfl, b, l4, _, r, m.p, m.n, rfl, r4, Same.tup s14 hb, PFR.of_plain M.fld (heard_ok M [x]), ok, M.fld, by omega, M.p1, fun H5 s5 => ⟨_, rfl, ?_⟩⟩
    rw [has]
    refine iteF ?_
    have s15 := s14.trans s5
    obtain ⟨wg, hg, dg, lg⟩ := mom_hands hh
    have hb5 := Same.tup s15 hb
    refine ⟨.ref a, rfl, a, _, dx, _, _, rfl, F1 s15, T.k_Moment.cl, T.na_Moment_hands, momF_hands, h, rfl, ⟨_, Same.tup s15 hg⟩, fun D nD => lc_it (walk_tup (K := K) (a := h) (xs := wg)) (fun i H' => Same H5 H' ∧ ∃ ws : List V, H' D = some (.lst ws) ∧ ws.length = i ∧ DpAll K H' ws (((callM m r).hands.take i).map handD)) ⟨same_upd nD, [], upd_same, rfl, .nil⟩ (fun i H' _ hP => Same.tup (s15.trans hP.1) hg) (fun i v Ha Hb hi hP hY => ?_) (fun H6 hP => ?_)⟩
    · obtain ⟨rfl, hx⟩ := hY
      obtain ⟨s6, ws, eD, lw, dl⟩ := hP
      have s16 := s15.trans s6
      obtain ⟨c', rr, y, rfl, gy, my, hc', hrr⟩ := dpAll_hand (dpAll_same s16 _ _ dg) hx
      refine ⟨c', _, rfl, hc', rfl, _, _, rfl, _, _, rfl, rfl, rfl, .str y.1, rfl, .ref rr, rfl, .ref b, rfl, sz1000 (by decide : (1 : Nat) ≤ 1000), fun o7 no7 => ?_⟩
      generalize h7 : upd _ o7 _ = H7
      obtain ⟨s7, e7⟩ := new_of h7 no7
      obtain ⟨w2, hr1, hr2⟩ := hrr
      have l2 := rows_len hr2
      have ly := M.lh y my
      refine ⟨rr, o7, _, _, rfl, rfl, Same.tup s7 hr1, .inl (.inl e7), sz1000 (by simp only [List.length_cons, List.length_nil]; omega), fun z8 H8 s8 h8 => ?_⟩
      refine ⟨sz1000 (by decide : (2 : Nat) ≤ 1000), fun z9 nz9 => ?_⟩
      generalize h9 : upd H8 z9 _ = H9
      obtain ⟨s9, e9⟩ := new_of h9 nz9
      have s79 := s7.trans (s8.trans s9)
      have eD9 := s79 _ _ eD
      have hi : i < m.hands.length := (List.getElem?_eq_some_iff.mp gy).1
      have tk := (Tk.refl H9).mut eD9 (ys := ws ++ [.ref z9])
      refine ⟨ws, eD9, small1000 (by omega), same_mut (s6.trans s79) nD, ws ++ [.ref z9], upd_same, by rw [List.length_append, lw]; rfl, ?_⟩
      have gr : (callM m r).hands[i]? = some (y.1, y.2 ++ [r]) := by
        unfold callM
        rw [List.getElem?_map, gy]
        rfl
      rw [List.take_add_one, gr, List.map_append]
      refine dpAll_append (dpAll_tk tk _ _ (noL_hands _) (dpAll_same s79 _ _ dl)) (.cons (.tup (tk _ _ _ (.inl (.inl e9))) (.cons (.str _) (.cons (.tup (tk _ _ _ (Same.tup s9 h8)) ?_) .nil))) .nil)
      rw [List.map_append]
      exact dpAll_append (dpAll_tk tk _ _ (noL_rows _) (dpAll_same s79 _ _ hr2)) (.cons (row_dp (tk _ _ _ (Same.tup (s16.trans s79) hb))) .nil)
    · obtain ⟨s6, ws, eD, lw, dl⟩ := hP
      have lr2 : (callM m r).hands.length = m.hands.length := by unfold callM; rw [List.length_map]
      rw [List.take_of_length_le (by omega)] at dl
      refine ⟨D, _, rfl, .inl ⟨.inl (.inl eD), fun t nt => ?_⟩⟩
      generalize h7 : upd H6 t _ = H7
      obtain ⟨s7, e7⟩ := new_of h7 nt
      have s17 := s15.trans (s6.trans s7)
      refine ⟨.ref a, rfl, a, _, dx, _, _, rfl, F1 s17, T.k_Moment.cl, T.na_Moment_p, momF_p, .ref a, rfl, a, _, dx, _, _, rfl, F1 s17, T.k_Moment.cl, T.na_Moment_n, momF_n, ?_⟩
      refine ⟨.ref a, rfl, a, _, dx, _, _, rfl, F1 s17, T.k_Moment.cl, T.na_Moment_called, momF_called, .ref b, rfl, sz1000 (by decide : (1 : Nat) ≤ 1000), fun o8 no8 => ?_⟩
      generalize h8 : upd H7 o8 _ = H8
      obtain ⟨s8, e8⟩ := new_of h8 no8
      obtain ⟨wc, hwc, dwc⟩ := hc
      have lwc := rows_len dwc
      have lc := M.lc
      have s18 := s17.trans s8
      refine ⟨c, o8, _, _, rfl, rfl, Same.tup s18 hwc, .inl (.inl e8), sz1000 (by simp only [List.length_cons, List.length_nil]; omega), fun z9 H9 s9 h9 => ?_⟩
      have s19 := s18.trans s9
      refine ⟨.ref t, rfl, made_mom (m' := callM m r) ⟨_, h9, ?_⟩ (.tup (.inl (.inl ((s8.trans s9) _ _ e7))) (dpAll_same (s7.trans (s8.trans s9)) _ _ dl)) fun H' a' s' at' => q H' a' (s19.trans s') at'⟩
      show DpAll K H9 _ ((m.called ++ [r]).map rowD)
      rw [List.map_append]
      exact dpAll_append (dpAll_same s19 _ _ dwc) (.cons (row_dp (Same.tup s19 hb)) .nil)
def sp_after_whisper (K : PySem.W.Frag) (mg : Str → Option Value) : Sp := fun vs H Q _ => ∃ (a b c : Addr) (ns : List Str) (r : List Int) (m : Mom), vs = [.ref a, .ref c, .ref b] ∧ MomAt K mg H a m ∧ MomOk 900 m ∧ SqT K H b (r.map V.int) ∧ RowsOk m.p m.n [r] ∧ SqT K H c (ns.map V.str) ∧ ns.Pairwise sl ∧ 1 ≤ ns.length ∧ ns.length ≤ 100 ∧ (∀ x ∈ ns, x ∈ m.hands.map Prod.fst) ∧
  ∀ H' a', Same H H' → MomAt K mg H' a' (whisperM m ns r) → Q (.ref a') H'
theorem ok_after_whisper (T : Top K mg) : Ok P w K mg base 7 "after_whisper" ["moment", "hands", "row"] (sp_after_whisper K mg) := by
  have O_check_hands := ok_check_hands (P := P) (w := w) (base := base) T
  have O_names_at := ok_names_at (P := P) (w := w) (base := base) T
  have O_check_row := ok_check_rowB (P := P) (w := w) (base := base) T
  have O_Moment___init__ := ok_Moment___init__ (P := P) (w := w) (base := base) T
  refine T.d_after_whisper.ok sc_after_whisper (fun vs H Q E h => ?_) (fun f cdv A outer s H vs Q E hr h => ?_)
  · obtain ⟨a, b, c, ns, r, m, rfl, _⟩ := h
    rfl
  · obtain ⟨a, b, cn, ns, r, m, rfl, ma, M, hb, ok, hn, srt, n1, n100, inn, q⟩ := h
    obtain ⟨dx, c, h, ea, hc, hh⟩ := id ma
    refine ⟨_, ((pss_cons (ps_expr (pe_callO O_check_hands (hr.mono (by omega)) (by rfl) (pa_cons (pe_callO O_names_at (hr.mono (by omega)) (by rfl) (pa_cons (pv 0) pa_nil)) (pa_cons (pv 1) (pa_cons pe_int pa_nil)))))
      (pss_cons (ps_expr (pe_callO O_check_row (hr.mono (by omega)) (by rfl) (pa_cons (pe_fld (pv 0) (by rfl)) (pa_cons (pe_fld (pv 0) (by rfl)) (pa_cons (pv 2) pa_nil)))))
      (pss_cons (ps_setLc (i := 5) (own := [("name", 3), ("rows", 4)]) (g := gTup K 2 (gCons (gName 3) (gCons (gName 4) gNil))) (by rfl) sc_after_whisper.nd rfl rfl (sw_true rfl rfl rfl (by decide +kernel)) (pi_tup (pe_fld (pv 0) (by rfl))) (blkOk_by (own := [("name", 3), ("rows", 4)]) (N := N_after_whisper) (sc := defScope s_after_whisper) (by decide +kernel)) (fun _ _ _ _ _ => (pg_tup (by rfl) (pgs_cons (pg_name (i := 3) sc_after_whisper.nd rfl (.inl rfl)) (pgs_cons (pg_name (i := 4) sc_after_whisper.nd rfl (.inl rfl)) pgs_nil)))) (fun _ _ _ _ _ => pts_nil) (fun _ _ _ _ _ => (pe_tup (pa_cons (pv 3) (pa_cons (pe_ifExp (pt_cmpR (show OpR _ (compareOp .In) (rIn K false) from op_in_seq) (pv 3) (pv 1) (by rfl)) (pe_op (show OpR _ (binaryOp .Add) (rCatB K) from op_catB) (pv 4) (pe_tup (pa_cons (pv 2) pa_nil))) (pv 4)) pa_nil)))))
      (pss_one (ps_ret (pe_makeO O_Moment___init__ T.k_Moment (hr.mono (by omega)) (by rfl) (pa_cons (pe_fld (pv 0) (by rfl)) (pa_cons (pe_fld (pv 0) (by rfl)) (pa_cons (pe_fld (pv 0) (by rfl)) (pa_cons (pe_callTy call_tuple_of (by rfl) T.b_tuple (by decide +kernel) (pa_cons (pv 5) pa_nil)) pa_nil))))))))))), ?_⟩
    have many := M.many
    have n8 := M.n8
    have F1 : ∀ {H' : Hp}, Same H H' → H' a = some (.ins (adr mg "Moment") dx (momF m.p m.n c h)) := fun s => s _ _ ea
    refine ⟨.ref a, rfl, a, m, rfl, ma, by omega, fun H1 l1 s1 h1 => ?_⟩
    refine ⟨.ref cn, rfl, l1, cn, _, ns, 1, rfl, h1, Same.tup s1 hn, fun x hx => M.nm x (inn x hx), srt, n100, by omega, inn, fun H1' s1' => ?_⟩
    have s11 := s1.trans s1'
    refine ⟨.ref a, rfl, a, _, dx, _, _, rfl, F1 s11, T.k_Moment.cl, T.na_Moment_p, momF_p, .ref a, rfl, a, _, dx, _, _, rfl, F1 s11, T.k_Moment.cl, T.na_Moment_n, momF_n, .ref b, rfl, ?_⟩
    have lr := (ok r List.mem_cons_self).1
    refine ⟨b, r, m.p, m.n, rfl, Same.tup s11 hb, ok, by omega, fun H5 s5 => ?_⟩
    have s15 := s11.trans s5
    obtain ⟨wg, hg, dg, lg⟩ := mom_hands hh
    refine ⟨.ref a, rfl, a, _, dx, _, _, rfl, F1 s15, T.k_Moment.cl, T.na_Moment_hands, momF_hands, h, rfl, ⟨_, Same.tup s15 hg⟩, fun D nD => lc_it (walk_tup (K := K) (a := h) (xs := wg)) (fun i H' => Same H5 H' ∧ ∃ ws : List V, H' D = some (.lst ws) ∧ ws.length = i ∧ DpAll K H' ws (((whisperM m ns r).hands.take i).map handD)) ⟨same_upd nD, [], upd_same, rfl, .nil⟩ (fun i H' _ hP => Same.tup (s15.trans hP.1) hg) (fun i v Ha Hb hi hP hY => ?_) (fun H6 hP => ?_)⟩
    · obtain ⟨rfl, hx⟩ := hY
      obtain ⟨s6, ws, eD, lw, dl⟩ := hP
      have s16 := s15.trans s6
      obtain ⟨c', rr, y, rfl, gy, my, hc', hrr⟩ := dpAll_hand (dpAll_same s16 _ _ dg) hx
      obtain ⟨w2, hr1, hr2⟩ := hrr
      have l2 := rows_len hr2
      have ly := M.lh y my
      have hi : i < m.hands.length := (List.getElem?_eq_some_iff.mp gy).1
      refine ⟨c', _, rfl, hc', rfl, _, _, rfl, _, _, rfl, rfl, rfl, .str y.1, rfl, .str y.1, rfl, .ref cn, rfl, cn, _, rfl, .inr (Same.tup s16 hn), rfl, flat_strs ns, _, rfl, ?_⟩
      rw [show (if false = true then !inV (V.str y.1) (ns.map V.str) else inV (V.str y.1) (ns.map V.str)) = decide (y.1 ∈ ns) from in_strs y.1 ns]
      -- the hand's new pair
      have fin : ∀ {H8 : Hp} (z8 : Addr) (rs : List (List Int)) (w8 : List V), (Same Hb H8) → SqT K H8 z8 w8 → DpAll K H8 w8 (rs.map rowD) → (whisperM m ns r).hands[i]? = some (y.1, rs) → ∀ {H9 : Hp} (z9 : Addr), Same H8 H9 → H9 z9 = some (.tup [.str y.1, .ref z8]) →
          ∃ acc, H9 D = some (.lst acc) ∧ acc.length < sizeLine ∧ (Same H5 (upd H9 D (.lst (acc ++ [.ref z9]))) ∧ ∃ ws : List V, (upd H9 D (.lst (acc ++ [.ref z9]))) D = some (.lst ws) ∧ ws.length = i + 1 ∧ DpAll K (upd H9 D (.lst (acc ++ [.ref z9]))) ws (((whisperM m ns r).hands.take (i + 1)).map handD)) := fun {H8} z8 rs w8 s8 h8 d8 gr {H9} z9 s9 e9 => by
        have s79 := s8.trans s9
        have eD9 := s79 _ _ eD
        have tk := (Tk.refl H9).mut eD9 (ys := ws ++ [.ref z9])
        refine ⟨ws, eD9, small1000 (by omega), same_mut (s6.trans s79) nD, ws ++ [.ref z9], upd_same, by rw [List.length_append, lw]; rfl, ?_⟩
        rw [List.take_add_one, gr, List.map_append]
        exact dpAll_append (dpAll_tk tk _ _ (noL_hands _) (dpAll_same s79 _ _ dl)) (.cons (.tup (tk _ _ _ (.inl (.inl e9))) (.cons (.str _) (.cons (.tup (tk _ _ _ (Same.tup s9 h8)) (dpAll_tk tk _ _ (noL_rows _) (dpAll_same s9 _ _ d8))) .nil))) .nil)
      have gr : (whisperM m ns r).hands[i]? = some (if y.1 ∈ ns then (y.1, y.2 ++ [r]) else y) := by
        unfold whisperM
        rw [List.getElem?_map, gy]
        rfl
      by_cases hm : y.1 ∈ ns
      · rw [if_pos hm] at gr
        rw [decide_eq_true hm]
        refine iteT ⟨.ref rr, rfl, .ref b, rfl, sz1000 (by decide : (1 : Nat) ≤ 1000), fun o7 no7 => ?_⟩
        generalize h7 : upd _ o7 _ = H7
        obtain ⟨s7, e7⟩ := new_of h7 no7
        refine ⟨rr, o7, _, _, rfl, rfl, Same.tup s7 hr1, .inl (.inl e7), sz1000 (by simp only [List.length_cons, List.length_nil]; omega), fun z8 H8 s8 h8 => ?_⟩
        refine ⟨sz1000 (by decide : (2 : Nat) ≤ 1000), fun z9 nz9 => ?_⟩
        generalize h9 : upd H8 z9 _ = H9
        obtain ⟨s9, e9⟩ := new_of h9 nz9
        refine fin z8 (y.2 ++ [r]) _ (s7.trans s8) h8 ?_ gr z9 s9 e9
        rw [List.map_append]
        exact dpAll_append (dpAll_same (s7.trans s8) _ _ hr2) (.cons (row_dp (Same.tup (s16.trans (s7.trans s8)) hb)) .nil)
      · rw [if_neg hm] at gr
        rw [decide_eq_false hm]
        refine iteF ⟨.ref rr, rfl, sz1000 (by decide : (2 : Nat) ≤ 1000), fun z9 nz9 => ?_⟩
        generalize h9 : upd _ z9 _ = H9
        obtain ⟨s9, e9⟩ := new_of h9 nz9
        exact fin rr y.2 _ (Same.refl _) hr1 hr2 gr z9 s9 e9
    · obtain ⟨s6, ws, eD, lw, dl⟩ := hP
      have lr2 : (whisperM m ns r).hands.length = m.hands.length := by unfold whisperM; rw [List.length_map]
      rw [List.take_of_length_le (by omega)] at dl
      have s17 := s15.trans s6
      refine ⟨.ref a, rfl, a, _, dx, _, _, rfl, F1 s17, T.k_Moment.cl, T.na_Moment_p, momF_p, .ref a, rfl, a, _, dx, _, _, rfl, F1 s17, T.k_Moment.cl, T.na_Moment_n, momF_n, ?_⟩
      refine ⟨.ref a, rfl, a, _, dx, _, _, rfl, F1 s17, T.k_Moment.cl, T.na_Moment_called, momF_called, .ref D, rfl, D, _, rfl, .inl ⟨.inl (.inl eD), fun t nt => ?_⟩⟩
      generalize h7 : upd H6 t _ = H7
      obtain ⟨s7, e7⟩ := new_of h7 nt
      exact made_mom (m' := whisperM m ns r) (RowsAt.same (s17.trans s7) hc) (.tup (.inl (.inl e7)) (dpAll_same s7 _ _ dl)) fun H' a' s' at' => q H' a' (s17.trans (s7.trans s')) at'
/-- the steps, by their words -/
structure StepsW (w : World) (K : PySem.W.Frag) (mg : Str → Option Value) : Prop where
  g_STEPS : mg "STEPS" = some (.ref (adr mg "STEPS"))
  at_ : ∀ x f : Str, (x, f) ∈ ([("call", "after_call"), ("whisper", "after_whisper"), ("meet", "after_meet"), ("hide", "after_hide"), ("change", "after_change"), ("come", "after_come"), ("go", "after_go")] : List (Str × Str)) → KDct K w (adr mg "STEPS") x (.ref (adr mg f))
def sp_after (K : PySem.W.Frag) (S : Str → Sp → Prop) : Sp := fun vs H Q _ => ∃ (a t : Addr) (x : Str) (xs : List V) (sp : Sp), vs = [.ref a, .ref t] ∧ SqT K H t (.str x :: xs) ∧ S x sp ∧ ∀ H', Same H H' → sp (.ref a :: xs) H' Q E0
theorem ok_after (T : Top K mg) (W : StepsW w K mg) {S : Str → Sp → Prop} (hS : ∀ x sp, S x sp → ∃ f, KDct K w (adr mg "STEPS") x (.ref f) ∧ HeldR P w K mg base 9 f sp) : Ok P w K mg base 10 "after" ["moment", "deed"] (sp_after K S) := by
  refine T.d_after.ok sc_after (fun vs H Q E h => ?_) (fun f cdv A outer s H vs Q E hr h => ?_)
  · obtain ⟨a, t, x, xs, sp, rfl, _⟩ := h
    rfl
  · obtain ⟨a, t, x, xs, sp, rfl, ht, hs, q⟩ := h
    refine ⟨_, ((pss_cons (ps_set (i := 2) sc_after.nd rfl (.inl rfl) (pe_ix ix_kdict (pe_glob (v := .ref _) (by rfl) W.g_STEPS rfl) (pe_ix ix_tup (pv 1) pe_int (fun _ _ => rfl)) (fun _ _ => rfl)))
      (pss_cons (ps_set (i := 3) sc_after.nd rfl (.inl rfl) (pe_slice sl_tupB (pv 1) (po_some pe_int) po_none))
      (pss_one (ps_ret (pe_callLS (k := 9) (hr.mono (by omega)) (i := 2) (by rfl) (.inl rfl) (pa_cons (pv 0) (StX.pa_star (pv 3) pa_nil)))))))), ?_⟩
    obtain ⟨f, kd, hf⟩ := hS x sp hs
    refine ⟨.ref t, rfl, t, _, 0, .str x, rfl, rfl, ht, atI_nat (j := 0) rfl, adr mg "STEPS", x, .ref f, rfl, rfl, kd, ?_⟩
    refine ⟨.ref t, rfl, 1, rfl, t, _, rfl, ht, fun b2 H2 s2 h2 => ?_⟩
    rw [cut1] at h2
    exact ⟨f, sp, rfl, hf, .ref a, rfl, .ref b2, rfl, b2, xs, rfl, .inl h2, by
      have z := q H2 s2
      show sp (.ref a :: (xs ++ [])) H2 _ E0
      rw [List.append_nil]
      exact z⟩
def sp_now (K : PySem.W.Frag) (mg : Str → Option Value) : Sp := fun vs H Q _ => ∃ (b : Addr) (q : BookS), vs = [.ref b] ∧ BookAt K mg H b q ∧ ∀ a m, q.moms[q.moms.length - 1]? = some m → MomAt K mg H a m → Q (.ref a) H
theorem atI_last {ws : List V} {v : V} (g : ws[ws.length - 1]? = some v) (h : 0 < ws.length) : atI ws (-1) = some v := by
  unfold atI ixN
  rw [if_neg (by decide), if_pos (by omega)]
  show ws[((-1 : Int) + (ws.length : Int)).toNat]? = some v
  rw [show ((-1 : Int) + (ws.length : Int)).toNat = ws.length - 1 by omega]
  exact g
theorem last_mom {H : Hp} {vs : List V} {q : BookS} (h2 : MomsAt K mg H vs q.moms) (l : q.moms.length = q.deeds.length + 1) : ∃ a m, q.moms[q.moms.length - 1]? = some m ∧ atI vs (-1) = some (.ref a) ∧ MomAt K mg H a m := by
  have g : q.moms[q.moms.length - 1]? = some (q.moms[q.moms.length - 1]'(by omega)) := List.getElem?_eq_getElem (by omega)
  obtain ⟨a, ga, ha⟩ := h2.get g
  have lv := h2.len
  exact ⟨a, _, g, atI_last (by rw [lv]; exact ga) (by omega), ha⟩
theorem ok_Book_now (T : Top K mg) : OkM P w K mg base 1 "Book" "now" ["self"] [] (sp_now K mg) := by
  refine T.d_Book_now.ok sc_Book_now (fun vs H Q E h => ?_) (fun f cdv A outer s H vs Q E hr h => ?_)
  · obtain ⟨b, q, rfl, _⟩ := h
    rfl
  · obtain ⟨b, q, rfl, ⟨⟨dx, w', t, u, v, ws, eb, h1, h2, h3, h4, h5⟩, nd, len⟩, k⟩ := h
    refine ⟨_, ((pss_one (ps_ret (pe_ix ix_tup (pe_fld (pv 0) (by rfl)) (pe_un un_neg pe_int) (fun _ _ => rfl))))), ?_⟩
    obtain ⟨a, m, g, ha, hm⟩ := last_mom h2 len
    exact ⟨.ref b, rfl, b, _, dx, _, _, rfl, eb, T.k_Book.cl, T.na_Book_moments, bookF_moments, 1, rfl, t, _, -1, .ref a, rfl, rfl, h1, ha, k a m g hm⟩
def sp_amid (K : PySem.W.Frag) (mg : Str → Option Value) : Sp := fun vs H Q _ => ∃ (b : Addr) (q : BookS), vs = [.ref b] ∧ BookAt K mg H b q ∧ q.amid = false ∧ Q .non H
theorem ok_Book_refuse_amid (T : Top K mg) : OkM P w K mg base 1 "Book" "refuse_amid" ["self"] [] (sp_amid K mg) := by
  refine T.d_Book_refuse_amid.ok sc_Book_refuse_amid (fun vs H Q E h => ?_) (fun f cdv A outer s H vs Q E hr h => ?_)
  · obtain ⟨b, q, rfl, _⟩ := h
    rfl
  · obtain ⟨b, q, rfl, ⟨⟨dx, w', t, u, v, ws, eb, h1, h2, h3, h4, h5⟩, nd, len⟩, am, k⟩ := h
    refine ⟨_, ((pss_one (ps_if (pt_val (pe_fld (pv 0) (by rfl)))
        (pss_one ps_dead)
        pss_nil))), ?_⟩
    rw [am] at eb
    exact ⟨.ref b, rfl, b, _, dx, _, _, rfl, eb, T.k_Book.cl, T.na_Book_amid, bookF_amid, false, rfl, iteF k⟩
def sp_moment_at (K : PySem.W.Frag) (mg : Str → Option Value) : Sp := fun vs H Q _ => ∃ (b : Addr) (q : BookS) (v : V) (i : Nat), vs = [.ref b, v] ∧ BookAt K mg H b q ∧ AtIdx q v i ∧ ∀ a m, q.moms[i]? = some m → MomAt K mg H a m → Q (.ref a) H
theorem ok_Book_moment_at (T : Top K mg) : OkM P w K mg base 2 "Book" "moment_at" ["self", "at"] [] (sp_moment_at K mg) := by
  have O_Book_now := ok_Book_now (P := P) (w := w) (base := base) T
  have O_is_number := ok_is_number (P := P) (w := w) (base := base) T
  refine T.d_Book_moment_at.ok sc_Book_moment_at (fun vs H Q E h => ?_) (fun f cdv A outer s H vs Q E hr h => ?_)
  · obtain ⟨b, q, v, i, rfl, _⟩ := h
    rfl
  · obtain ⟨b, q, v, i, rfl, B, ⟨hi, hv⟩, k⟩ := h
    obtain ⟨⟨dx, w', t, u, v', ws, eb, h1, h2, h3, h4, h5⟩, nd, len⟩ := id B
    refine ⟨_, ((pss_cons (ps_if (pt_cmpR op_isN (pv 1) pe_non (nomark _))
        (pss_one (ps_ret (pe_methO0 O_Book_now T.k_Book (hr.mono (by omega)) (pv 0))))
        pss_nil)
      (pss_cons (ps_if (PW.pt (pw_or (pt_not (pt_val (pe_callO O_is_number (hr.mono (by omega)) (by rfl) (pa_cons (pv 1) pa_nil)))) (pw_or1 (pt_not (pt_chain op_le op_le pe_int (pv 1) (pe_callB call_len_seq (by rfl) T.b_len (by decide +kernel) (pa_cons (pe_fld (pv 0) (by rfl)) pa_nil)))))))
        (pss_one ps_dead)
        pss_nil)
      (pss_one (ps_ret (pe_ix ix_tup (pe_fld (pv 0) (by rfl)) (pv 1) (fun _ _ => rfl))))))), ?_⟩
    rcases hv with ⟨rfl, hl⟩ | rfl
    · refine ⟨.non, rfl, rfl, _, rfl, ?_⟩
      rw [decide_eq_true rfl]
      refine iteT ⟨.ref b, rfl, b, dx, _, rfl, eb, bookF_none (by decide +kernel) (by decide +kernel) (by decide +kernel) (by decide +kernel) (by decide +kernel), b, q, rfl, B, fun a m g hm => k a m ?_ hm⟩
      rw [show i = q.moms.length - 1 by omega]
      exact g
    · refine ⟨.int i, rfl, rfl, _, rfl, ?_⟩
      rw [decide_eq_false (fun z => nomatch z)]
      obtain ⟨m, gm⟩ : ∃ m, q.moms[i]? = some m := ⟨_, List.getElem?_eq_getElem hi⟩
      obtain ⟨a, ga, ha⟩ := h2.get gm
      obtain ⟨wu, hu, du, lu⟩ : ∃ wu, SqT K H u wu ∧ DpAll K H wu (q.deeds.map deedD) ∧ wu.length = q.deeds.length := by
        cases h3 with
        | tup a b =>
          have := dpAll_len b
          rw [List.length_map] at this
          exact ⟨_, a, b, this⟩
      refine iteF ⟨.int i, rfl, .int i, .int, rfl, kd_int _, _, rfl, iteF ?_⟩
      refine ⟨.int i, rfl, 0, _, rfl, rfl, _, rfl, ?_⟩
      rw [decide_eq_true (show (0 : Int) ≤ (i : Int) by omega)]
      refine iteT ⟨.ref b, rfl, b, _, dx, _, _, rfl, eb, T.k_Book.cl, T.na_Book_done, bookF_done, u, _, rfl, .inr hu, _, _, rfl, rfl, _, rfl, ?_⟩
      rw [decide_eq_true (show (i : Int) ≤ (wu.length : Int) by omega)]
      refine iteF ⟨.ref b, rfl, b, _, dx, _, _, rfl, eb, T.k_Book.cl, T.na_Book_moments, bookF_moments, .int i, rfl, t, _, i, .ref a, rfl, rfl, h1, atI_nat ga, k a m gm ha⟩
theorem deeds_of {H : Hp} {u : Addr} {ds : List Deed} (h : Dp K H (.ref u) (.tuple (ds.map deedD))) : ∃ wu, SqT K H u wu ∧ DpAll K H wu (ds.map deedD) ∧ wu.length = ds.length := by
  cases h with
  | tup a b =>
    have := dpAll_len b
    rw [List.length_map] at this
    exact ⟨_, a, b, this⟩
def sp_moment_of (K : PySem.W.Frag) (mg : Str → Option Value) : Sp := fun vs H Q _ => ∃ (b c : Addr) (q : BookS) (v : V) (i : Nat) (k : Int) (ns : List Str) (m : Mom), vs = [.ref b, .ref c, .int k, v] ∧ BookAt K mg H b q ∧ AtIdx q v i ∧ q.moms[i]? = some m ∧ MomOk 1000 m ∧ SqT K H c (ns.map V.str) ∧ ns.Pairwise sl ∧ k ≤ ns.length ∧ ns.length ≤ 100 ∧ (∀ x ∈ ns, x ∈ m.hands.map Prod.fst) ∧
  ∀ H' a, Same H H' → MomAt K mg H' a m → Q (.ref a) H'
theorem ok_Book_moment_of (T : Top K mg) : OkM P w K mg base 4 "Book" "moment_of" ["self", "hands", "least", "at"] [] (sp_moment_of K mg) := by
  have O_Book_moment_at := ok_Book_moment_at (P := P) (w := w) (base := base) T
  have O_check_hands := ok_check_hands (P := P) (w := w) (base := base) T
  have O_names_at := ok_names_at (P := P) (w := w) (base := base) T
  refine T.d_Book_moment_of.ok sc_Book_moment_of (fun vs H Q E h => ?_) (fun f cdv A outer s H vs Q E hr h => ?_)
  · obtain ⟨b, c, q, v, i, k, ns, m, rfl, _⟩ := h
    rfl
  · obtain ⟨b, c, q, v, i, k, ns, m, rfl, B, hi, gm, M, hc, srt, lk, l100, inn, k'⟩ := h
    obtain ⟨⟨dx, w', t, u, v', ws, eb, h1, h2, h3, h4, h5⟩, nd, len⟩ := id B
    refine ⟨_, ((pss_cons (ps_set (i := 4) sc_Book_moment_of.nd rfl (.inl rfl) (pe_methO O_Book_moment_at T.k_Book (hr.mono (by omega)) (pv 0) (pa_cons (pv 3) pa_nil)))
      (pss_cons (ps_expr (pe_callO O_check_hands (hr.mono (by omega)) (by rfl) (pa_cons (pe_callO O_names_at (hr.mono (by omega)) (by rfl) (pa_cons (pv 4) pa_nil)) (pa_cons (pv 1) (pa_cons (pv 2) pa_nil)))))
      (pss_one (ps_ret (pv 4)))))), ?_⟩
    have many := M.many
    refine ⟨.ref b, rfl, b, dx, _, rfl, eb, bookF_none (by decide +kernel) (by decide +kernel) (by decide +kernel) (by decide +kernel) (by decide +kernel), v, rfl, b, q, v, i, rfl, B, hi, fun a m' g hm => ?_⟩
    cases gm.symm.trans g
    refine ⟨.ref a, rfl, a, m, rfl, hm, by omega, fun H1 l s1 h1' => ?_⟩
    refine ⟨.ref c, rfl, .int k, rfl, l, c, _, ns, k, rfl, h1', Same.tup s1 hc, fun x hx => M.nm x (inn x hx), srt, l100, lk, inn, fun H2 s2 => ?_⟩
    exact ⟨.ref a, rfl, k' H2 a (s1.trans s2) (hm.same (s1.trans s2))⟩
def sp_bknows (K : PySem.W.Frag) (mg : Str → Option Value) : Sp := fun vs H Q _ => ∃ (b c e : Addr) (q : BookS) (v : V) (i : Nat) (ns : List Str) (r : List Int) (m : Mom), vs = [.ref b, .ref c, .ref e, v] ∧ BookAt K mg H b q ∧ AtIdx q v i ∧ q.moms[i]? = some m ∧ MomOk 1000 m ∧ SqT K H c (ns.map V.str) ∧ ns.Pairwise sl ∧ ns.length ≤ 100 ∧ (∀ x ∈ ns, x ∈ m.hands.map Prod.fst) ∧ SqT K H e (r.map V.int) ∧ RowsOk m.p m.n [r] ∧
  ∀ H', Same H H' → Q (.bl (hasR m.p m.n (plainR m.p m.n (heardM m ns)) r)) H'
theorem ok_Book_knows (T : Top K mg) : OkM P w K mg base 7 "Book" "knows" ["self", "hands", "row", "at"] [.non] (sp_bknows K mg) := by
  have O_Book_moment_of := ok_Book_moment_of (P := P) (w := w) (base := base) T
  have O_known_at := ok_known_at (P := P) (w := w) (base := base) T
  have O_check_row := ok_check_rowB (P := P) (w := w) (base := base) T
  have O_within := ok_within (P := P) (w := w) (base := base) T
  refine T.d_Book_knows.ok sc_Book_knows (fun vs H Q E h => ?_) (fun f cdv A outer s H vs Q E hr h => ?_)
  · obtain ⟨b, c, e, q, v, i, ns, r, m, rfl, _⟩ := h
    rfl
  · obtain ⟨b, c, e, q, v, i, ns, r, m, rfl, B, hi, gm, M, hc, srt, l100, inn, he, ok, k'⟩ := h
    obtain ⟨⟨dx, w', t, u, v', ws, eb, h1, h2, h3, h4, h5⟩, nd, len⟩ := id B
    refine ⟨_, ((pss_cons (ps_set (i := 4) sc_Book_knows.nd rfl (.inl rfl) (pe_methO O_Book_moment_of T.k_Book (hr.mono (by omega)) (pv 0) (pa_cons (pv 1) (pa_cons pe_int (pa_cons (pv 3) pa_nil)))))
      (pss_cons (ps_expr (pe_callO O_check_row (hr.mono (by omega)) (by rfl) (pa_cons (pe_fld (pv 4) (by rfl)) (pa_cons (pe_fld (pv 4) (by rfl)) (pa_cons (pv 2) pa_nil)))))
      (pss_one (ps_ret (pe_callO O_within (hr.mono (by omega)) (by rfl) (pa_cons (pe_fld (pv 4) (by rfl)) (pa_cons (pe_callO O_known_at (hr.mono (by omega)) (by rfl) (pa_cons (pv 4) (pa_cons (pv 1) pa_nil))) (pa_cons (pv 2) pa_nil))))))))), ?_⟩
    refine ⟨.ref b, rfl, b, dx, _, rfl, eb, bookF_none (by decide +kernel) (by decide +kernel) (by decide +kernel) (by decide +kernel) (by decide +kernel), .ref c, rfl, v, rfl, b, c, q, v, i, 0, ns, m, rfl, B, hi, gm, M, hc, srt, by omega, l100, inn, fun H1 a s1 hm => ?_⟩
    obtain ⟨dm, cm, hh, ea, hcm, hhm⟩ := id hm
    have n8 := M.n8
    have lr := (ok r List.mem_cons_self).1
    refine ⟨.ref a, rfl, a, _, dm, _, _, rfl, ea, T.k_Moment.cl, T.na_Moment_p, momF_p, .ref a, rfl, a, _, dm, _, _, rfl, ea, T.k_Moment.cl, T.na_Moment_n, momF_n, .ref e, rfl, ?_⟩
    refine ⟨e, r, m.p, m.n, rfl, Same.tup s1 he, ok, by omega, fun H2 s2 => ?_⟩
    refine ⟨.ref a, rfl, a, _, dm, _, _, rfl, s2 _ _ ea, T.k_Moment.cl, T.na_Moment_p, momF_p, .ref a, rfl, .ref c, rfl, a, c, m, ns, rfl, hm.same s2, Same.tup (s1.trans s2) hc, M, fun H3 l s3 r3 => ?_⟩
    exact ⟨.ref e, rfl, e, l, _, r, m.p, m.n, rfl, r3, Same.tup (s1.trans (s2.trans s3)) he, PFR.of_plain M.fld (heard_ok M ns), ok, M.fld, by omega, M.p1, fun H4 s4 => k' H4 (s1.trans (s2.trans (s3.trans s4)))⟩
def sp_bstand (K : PySem.W.Frag) (mg : Str → Option Value) : Sp := fun vs H Q _ => ∃ (b : Addr) (q : BookS) (v : V) (i : Nat) (m : Mom), vs = [.ref b, v] ∧ BookAt K mg H b q ∧ AtIdx q v i ∧ q.moms[i]? = some m ∧ MomOk 1000 m ∧
  ∀ H' l, Same H H' → Dp K H' (.ref l) (standM m) → Q (.ref l) H'
theorem book_stand (T : Top K mg) {f : Addr} {cdv : Value} {A : Around} {outer : List Env} {s : Shared} {H : Hp} {vs : List V} {Q : VK} {E : XK} (hr : Room 8 (A.deeper (envOfC "Book.stand" (defScope s_Book_stand) s.heap.objs.size f cdv))) (h : sp_bstand K mg vs H Q E) :
    ∃ t, PSs (cxOf CX0 P w K mg base N_Book_stand "Book.stand" (defScope s_Book_stand) f cdv A outer s H E).nox (defBody s_Book_stand) t ∧ t { nx := fun _ H' => Q .non H', rt := Q } (start N_Book_stand vs) H := by
  have O_Book_moment_at := ok_Book_moment_at (P := P) (w := w) (base := base) T
  have O_stand_at := ok_stand_at (P := P) (w := w) (base := base) T
  obtain ⟨b, q, v, i, m, rfl, B, hi, gm, M, k'⟩ := h
  obtain ⟨⟨dx, w', t, u, v', ws, eb, h1, h2, h3, h4, h5⟩, nd, len⟩ := id B
  refine ⟨_, ((pss_one (ps_ret (pe_callO O_stand_at (hr.mono (by omega)) (by rfl) (pa_cons (pe_methO O_Book_moment_at T.k_Book (hr.mono (by omega)) (pv 0) (pa_cons (pv 1) pa_nil)) pa_nil))))), ?_⟩
  refine ⟨.ref b, rfl, b, dx, _, rfl, eb, bookF_none (by decide +kernel) (by decide +kernel) (by decide +kernel) (by decide +kernel) (by decide +kernel), v, rfl, b, q, v, i, rfl, B, hi, fun a m' g hm => ?_⟩
  cases gm.symm.trans g
  exact ⟨a, m, rfl, hm, M, k'⟩
theorem ok_Book_stand (T : Top K mg) : OkM P w K mg base 9 "Book" "stand" ["self", "at"] [.non] (sp_bstand K mg) :=
  T.d_Book_stand.ok sc_Book_stand (fun vs H Q E h => by
    obtain ⟨b, q, v, i, m, rfl, _⟩ := h
    rfl) fun f cdv A outer s H vs Q E hr h => book_stand T hr h
def sp_blen (K : PySem.W.Frag) (mg : Str → Option Value) : Sp := fun vs H Q _ => ∃ (b : Addr) (q : BookS), vs = [.ref b] ∧ BookAt K mg H b q ∧ Q (.int (q.deeds.length : Nat)) H
theorem ok_Book___len__ (T : Top K mg) : OkM P w K mg base 1 "Book" "__len__" ["self"] [] (sp_blen K mg) := by
  refine T.d_Book___len__.ok sc_Book___len__ (fun vs H Q E h => ?_) (fun f cdv A outer s H vs Q E hr h => ?_)
  · obtain ⟨b, q, rfl, _⟩ := h
    rfl
  · obtain ⟨b, q, rfl, ⟨⟨dx, w', t, u, v, ws, eb, h1, h2, h3, h4, h5⟩, nd, len⟩, k⟩ := h
    refine ⟨_, ((pss_one (ps_ret (pe_callB call_len_seq (by rfl) T.b_len (by decide +kernel) (pa_cons (pe_fld (pv 0) (by rfl)) pa_nil))))), ?_⟩
    obtain ⟨wu, hu, du, lu⟩ := deeds_of h3
    refine ⟨.ref b, rfl, b, _, dx, _, _, rfl, eb, T.k_Book.cl, T.na_Book_done, bookF_done, u, _, rfl, .inr hu, ?_⟩
    rw [lu]
    exact k
theorem cut_lastB {xs : List V} : cutV xs none (some (-1)) = xs.take (xs.length - 1) := by
  unfold cutV
  have e : HT.sIx xs.length xs.length (some (-1)) = xs.length - 1 := by
    show (if (-1 : Int) < 0 then ((-1 : Int) + (xs.length : Int)).toNat else min (-1 : Int).toNat xs.length) = _
    rw [if_pos (by decide)]
    omega
  rw [e, HT.sIx_none, List.drop_zero, Nat.sub_zero]
theorem xc_upd {H : Hp} {b : Addr} {o : HO} : Xc b H (upd H b o) := fun a o' h n => by rw [upd_ne n]; exact h
def sp_book (K : PySem.W.Frag) (mg : Str → Option Value) : Sp := fun vs H Q _ => ∃ (b dx h : Addr) (p : Int) (n : Nat) (hs : List (Str × List (List Int))), vs = [.ref b, .int p, .int (n : Int), .ref h] ∧ H b = some (.ins (adr mg "Book") dx []) ∧ Dp K H (.ref h) (.tuple (hs.map handD)) ∧
  ∀ H', Xc b H H' → BookAt K mg H' b ⟨.tuple [.int p, .int (n : Int), .tuple (hs.map handD)], [⟨p, n, [], hs⟩], [], [], false⟩ → Q .non H'
theorem ok_Book___init__ (T : Top K mg) : OkM P w K mg base 3 "Book" "__init__" ["self", "p", "n", "hands"] [] (sp_book K mg) := by
  have O_Moment___init__ := ok_Moment___init__ (P := P) (w := w) (base := base) T
  refine T.d_Book___init__.ok sc_Book___init__ (fun vs H Q E h => ?_) (fun f cdv A outer s H vs Q E hr h => ?_)
  · obtain ⟨b, dx, h, p, n, hs, rfl, _⟩ := h
    rfl
  · obtain ⟨b, dx, h, p, n, hs, rfl, hb, dh, q⟩ := h
    refine ⟨_, ((pss_cons (ps_fld (pv 0) (pe_tup (pa_cons (pv 1) (pa_cons (pv 2) (pa_cons (pv 3) pa_nil)))) (by rfl))
      (pss_cons (ps_fld (pv 0) (pe_tup (pa_cons (pe_makeO O_Moment___init__ T.k_Moment (hr.mono (by omega)) (by rfl) (pa_cons (pv 1) (pa_cons (pv 2) (pa_cons (pe_tup pa_nil) (pa_cons (pv 3) pa_nil))))) pa_nil)) (by rfl))
      (pss_cons (ps_fld (pv 0) (pe_tup pa_nil) (by rfl))
      (pss_cons (ps_fld (pv 0) (pe_tup pa_nil) (by rfl))
      (pss_one (ps_fld (pv 0) pe_bl (by rfl)))))))), ?_⟩
    refine ⟨.int p, rfl, .int (n : Int), rfl, .ref h, rfl, sz1000 (by decide : (3 : Nat) ≤ 1000), fun z1 nz1 => ?_⟩
    generalize h1 : upd H z1 _ = H1
    obtain ⟨s1, e1⟩ := new_of h1 nz1
    refine ⟨.ref b, rfl, b, _, dx, _, rfl, s1 _ _ hb, T.k_Book.cl, T.na_Book_made, by decide, ?_⟩
    have x1 : Xc b H1 (upd H1 b (.ins (adr mg "Book") dx (putF "made" (.ref z1) []))) := xc_upd
    have b1 := s1 _ _ hb
    have b2 : (upd H1 b (.ins (adr mg "Book") dx (putF "made" (.ref z1) []))) b = some (.ins (adr mg "Book") dx (putF "made" (.ref z1) [])) := upd_same
    generalize upd H1 b _ = H2 at x1 b2 ⊢
    refine ⟨.int p, rfl, .int (n : Int), rfl, Nat.zero_le _, fun z2 nz2 => ?_⟩
    generalize h3 : upd H2 z2 _ = H3
    obtain ⟨s3, e3⟩ := new_of h3 nz2
    have m1 : Mv mg H1 H3 := (x1.trans (Xc.of s3)).mvI b1 rfl
    refine ⟨.ref h, rfl, fun a da na nda ne => ⟨a, da, z2, h, p, n, rfl, upd_same, fun H4 k4 f4 => ⟨rfl, ?_⟩⟩⟩
    obtain ⟨s4, at4⟩ := mom_made (m := ⟨p, n, [], hs⟩) na nda ⟨[], .inl (.inl e3), .nil⟩ (dp_tk m1.tk _ _ (noL_handsT _) (dp_same s1 _ _ dh)) k4 f4
    refine ⟨sz1000 (by decide : (1 : Nat) ≤ 1000), fun z5 nz5 => ?_⟩
    generalize h5 : upd H4 z5 _ = H5
    obtain ⟨s5, e5⟩ := new_of h5 nz5
    have b5 := (s3.trans (s4.trans s5)) _ _ b2
    have x5 : Xc b H1 H5 := x1.trans (Xc.of (s3.trans (s4.trans s5)))
    refine ⟨.ref b, rfl, b, _, dx, _, rfl, b5, T.k_Book.cl, T.na_Book_moments, lp1, ?_⟩
    have np1 : (putF "made" (.ref z1) ([] : List (Str × V))).lookup ("p" : Str) = none := by rw [lookup_putF, if_neg (by decide +kernel)]; rfl
    have x6 : Xc b H5 (upd H5 b (.ins (adr mg "Book") dx (putF "moments" (.ref z5) (putF "made" (.ref z1) [])))) := xc_upd
    have b6 : (upd H5 b (.ins (adr mg "Book") dx (putF "moments" (.ref z5) (putF "made" (.ref z1) [])))) b = some (.ins (adr mg "Book") dx (putF "moments" (.ref z5) (putF "made" (.ref z1) []))) := upd_same
    generalize upd H5 b _ = H6 at x6 b6 ⊢
    refine ⟨Nat.zero_le _, fun z7 nz7 => ?_⟩
    generalize h7 : upd H6 z7 _ = H7
    obtain ⟨s7, e7⟩ := new_of h7 nz7
    have b7 := s7 _ _ b6
    refine ⟨.ref b, rfl, b, _, dx, _, rfl, b7, T.k_Book.cl, T.na_Book_done, lp2, ?_⟩
    have np2 : (putF "moments" (.ref z5) (putF "made" (.ref z1) ([] : List (Str × V)))).lookup ("p" : Str) = none := by rw [lookup_putF, if_neg (by decide +kernel)]; exact np1
    have x8 : Xc b H7 (upd H7 b (.ins (adr mg "Book") dx (putF "done" (.ref z7) (putF "moments" (.ref z5) (putF "made" (.ref z1) []))))) := xc_upd
    have b8 : (upd H7 b (.ins (adr mg "Book") dx (putF "done" (.ref z7) (putF "moments" (.ref z5) (putF "made" (.ref z1) []))))) b = some (.ins (adr mg "Book") dx (putF "done" (.ref z7) (putF "moments" (.ref z5) (putF "made" (.ref z1) [])))) := upd_same
    generalize upd H7 b _ = H8 at x8 b8 ⊢
    refine ⟨Nat.zero_le _, fun z9 nz9 => ?_⟩
    generalize h9 : upd H8 z9 _ = H9
    obtain ⟨s9, e9⟩ := new_of h9 nz9
    have b9 := s9 _ _ b8
    refine ⟨.ref b, rfl, b, _, dx, _, rfl, b9, T.k_Book.cl, T.na_Book_trials, lp3, ?_⟩
    have np3 : (putF "done" (.ref z7) (putF "moments" (.ref z5) (putF "made" (.ref z1) ([] : List (Str × V))))).lookup ("p" : Str) = none := by rw [lookup_putF, if_neg (by decide +kernel)]; exact np2
    refine ⟨.ref b, rfl, b, _, dx, _, rfl, upd_same, T.k_Book.cl, T.na_Book_amid, lp4, ?_⟩
    generalize he : upd (upd H9 b _) b _ = He
    have xe : Xc b H9 He := by rw [← he]; exact xc_upd.trans xc_upd
    have be : He b = some (.ins (adr mg "Book") dx (bookF z1 z5 z7 z9 false)) := by rw [← he]; exact upd_same
    have x78 := x8.trans ((Xc.of s9).trans xe)
    have x58 := x6.trans ((Xc.of s7).trans x78)
    have x18 := x5.trans x58
    have m18 : Mv mg H1 He := x18.mvI b1 rfl
    have m58 : Mv mg H5 He := x58.mvI b5 np1
    have m78 : Mv mg H7 He := x78.mvI b7 np2
    have m98 : Mv mg H9 He := xe.mvI b9 np3
    refine q He ((Xc.of s1).trans x18) ⟨⟨dx, z1, z5, z7, z9, [.ref a], be, m58.tk _ _ _ (.inl (.inl e5)), ⟨⟨a, rfl, (at4.same s5).mv m58⟩, trivial⟩, ?_, ?_, ?_⟩, ⟨?_, rfl⟩, rfl⟩
    · exact .tup (m78.tk _ _ _ (.inl (.inl e7))) .nil
    · exact .tup (m18.tk _ _ _ (.inl (.inl e1))) (.cons (.int p) (.cons (.int n) (.cons (dp_tk m18.tk _ _ (noL_handsT _) (dp_same s1 _ _ dh)) .nil)))
    · exact .tup (m98.tk _ _ _ (.inl (.inl e9))) .nil
    · show noL (.tuple [.int p, .int (n : Int), .tuple (hs.map handD)]) = true
      have := noL_hands hs
      simp only [noL, noLAll, this, Bool.and_true]
def sp_perform (K : PySem.W.Frag) (mg : Str → Option Value) (S : Str → Sp → Prop) : Sp := fun vs H Q _ => ∃ (b t : Addr) (q : BookS) (d : Deed) (x : Str) (xs : List V) (sp : Sp) (m m' : Mom), vs = [.ref b, .ref t] ∧ BookAt K mg H b q ∧ q.deeds.length < 60 ∧ SqT K H t (.str x :: xs) ∧ S x sp ∧ Dp K H (.ref t) (deedD d) ∧ q.moms[q.moms.length - 1]? = some m ∧
  (∀ a H' Q', Same H H' → MomAt K mg H' a m → (∀ H2 a', Same H' H2 → MomAt K mg H2 a' m' → Q' (.ref a') H2) → sp (.ref a :: xs) H' Q' E0) ∧ ∀ H', Xc b H H' → BookAt K mg H' b (q.push m' d) → Q .non H'
theorem ok_Book_perform (T : Top K mg) (W : StepsW w K mg) {S : Str → Sp → Prop} (hS : ∀ x sp, S x sp → ∃ f, KDct K w (adr mg "STEPS") x (.ref f) ∧ HeldR P w K mg base 9 f sp) : OkM P w K mg base 11 "Book" "perform" ["self", "deed"] [] (sp_perform K mg S) := by
  have O_Book_now := ok_Book_now (P := P) (w := w) (base := base) T
  have O_after := ok_after (P := P) (w := w) (base := base) T W hS
  refine T.d_Book_perform.ok sc_Book_perform (fun vs H Q E h => ?_) (fun f cdv A outer s H vs Q E hr h => ?_)
  · obtain ⟨b, t, q, d, x, xs, sp, m, m', rfl, _⟩ := h
    rfl
  · obtain ⟨b, t, q, d, x, xs, sp, m, m', rfl, B, few, ht, hs, dt, gm, hsp, k⟩ := h
    obtain ⟨⟨dx, w', t', u, v', ws, eb, h1, h2, h3, h4, h5⟩, nd, len⟩ := id B
    obtain ⟨wu, hu, du, lu⟩ := deeds_of h3
    refine ⟨_, ((pss_cons (ps_if (pt_cmpR op_ge (pe_callB call_len_seq (by rfl) T.b_len (by decide +kernel) (pa_cons (pe_fld (pv 0) (by rfl)) pa_nil)) (pe_cint T.c_DEEDS (by rfl)) (nomark _))
        (pss_one ps_dead)
        pss_nil)
      (pss_cons (ps_set (i := 2) sc_Book_perform.nd rfl (.inl rfl) (pe_callO O_after (hr.mono (by omega)) (by rfl) (pa_cons (pe_methO0 O_Book_now T.k_Book (hr.mono (by omega)) (pv 0)) (pa_cons (pv 1) pa_nil))))
      (pss_cons (ps_fld (pv 0) (pe_op op_catB (pe_fld (pv 0) (by rfl)) (pe_tup (pa_cons (pv 2) pa_nil))) (by rfl))
      (pss_one (ps_fld (pv 0) (pe_op op_catB (pe_fld (pv 0) (by rfl)) (pe_tup (pa_cons (pv 1) pa_nil))) (by rfl))))))), ?_⟩
    have ldu : decide ((60 : Int) ≤ (wu.length : Int)) = false := decide_eq_false (by omega)
    refine ⟨.ref b, rfl, b, _, dx, _, _, rfl, eb, T.k_Book.cl, T.na_Book_done, bookF_done, u, _, rfl, .inr hu, _, _, rfl, rfl, _, rfl, ?_⟩
    rw [ldu]
    refine iteF ?_
    refine ⟨.ref b, rfl, b, dx, _, rfl, eb, bookF_none (by decide +kernel) (by decide +kernel) (by decide +kernel) (by decide +kernel) (by decide +kernel), b, q, rfl, B, fun a ma gma hma => ?_⟩
    cases gm.symm.trans gma
    refine ⟨.ref t, rfl, a, t, x, xs, sp, rfl, ht, hs, fun H' sH => hsp a H' _ sH (hma.same sH) fun H2 a' s2 at2 => ?_⟩
    have s12 := sH.trans s2
    refine ⟨.ref b, rfl, b, _, dx, _, _, rfl, s12 _ _ eb, T.k_Book.cl, T.na_Book_moments, bookF_moments, .ref a', rfl, sz1000 (by decide : (1 : Nat) ≤ 1000), fun z3 nz3 => ?_⟩
    generalize h3' : upd H2 z3 _ = H3
    obtain ⟨s3, e3⟩ := new_of h3' nz3
    have lm := h2.len
    refine ⟨t', z3, _, _, rfl, rfl, Same.tup (s12.trans s3) h1, .inl (.inl e3), sz1000 (by simp only [List.length_cons, List.length_nil]; omega), fun z4 H4 s4 h4' => ?_⟩
    have s14 := s12.trans (s3.trans s4)
    refine ⟨.ref b, rfl, b, _, dx, _, rfl, s14 _ _ eb, T.k_Book.cl, T.na_Book_moments, by rw [bookF_len]; decide, ?_⟩
    rw [bookF_setMoments]
    have x5 : Xc b H4 (upd H4 b (.ins (adr mg "Book") dx (bookF w' z4 u v' q.amid))) := xc_upd
    have b5 : (upd H4 b (.ins (adr mg "Book") dx (bookF w' z4 u v' q.amid))) b = some (.ins (adr mg "Book") dx (bookF w' z4 u v' q.amid)) := upd_same
    generalize upd H4 b _ = H5 at x5 b5 ⊢
    have x15 : Xc b H H5 := (Xc.of s14).trans x5
    have m15 : Mv mg H H5 := x15.mv eb
    refine ⟨.ref b, rfl, b, _, dx, _, _, rfl, b5, T.k_Book.cl, T.na_Book_done, bookF_done, .ref t, rfl, sz1000 (by decide : (1 : Nat) ≤ 1000), fun z6 nz6 => ?_⟩
    generalize h6' : upd H5 z6 _ = H6
    obtain ⟨s6, e6⟩ := new_of h6' nz6
    refine ⟨u, z6, _, _, rfl, rfl, Same.tup s6 (m15.tk _ _ _ hu), .inl (.inl e6), sz1000 (by simp only [List.length_cons, List.length_nil]; omega), fun z7 H7 s7 h7' => ?_⟩
    have b7 := (s6.trans s7) _ _ b5
    refine ⟨.ref b, rfl, b, _, dx, _, rfl, b7, T.k_Book.cl, T.na_Book_done, by rw [bookF_len]; decide, ?_⟩
    rw [bookF_setDone]
    generalize he : upd H7 b _ = He
    have x7 : Xc b H7 He := by rw [← he]; exact xc_upd
    have be : He b = some (.ins (adr mg "Book") dx (bookF w' z4 z7 v' q.amid)) := by rw [← he]; exact upd_same
    have x5e := (Xc.of (s6.trans s7)).trans x7
    have xe := x15.trans x5e
    have me : Mv mg H He := xe.mv eb
    have m4e : Mv mg H4 He := (x5.trans x5e).mv (s14 _ _ eb)
    have m7e : Mv mg H7 He := x7.mv b7
    refine k He xe ⟨⟨dx, w', z4, z7, v', _, be, m4e.tk _ _ _ h4', MomsAt.append (h2.mv me) ⟨⟨a', rfl, (at2.same (s3.trans s4)).mv m4e⟩, trivial⟩, ?_, dp_tk me.tk _ _ nd.1 h4, dp_tk me.tk _ _ (noL_tup nd.2) h5⟩, nd, ?_⟩
    · refine .tup (m7e.tk _ _ _ h7') ?_
      show DpAll K He _ ((q.deeds ++ [d]).map deedD)
      rw [List.map_append]
      exact dpAll_append (dpAll_tk me.tk _ _ (noL_deeds _) du) (.cons (dp_tk me.tk _ _ (noL_deed d) dt) .nil)
    · show (q.moms ++ [m']).length = (q.deeds ++ [d]).length + 1
      rw [List.length_append, List.length_append, len]
      rfl
/-- the steps that have cards -/
def stepS (K : PySem.W.Frag) (mg : Str → Option Value) : Str → Sp → Prop := fun x sp => (x = "call" ∧ sp = sp_after_call K mg) ∨ (x = "whisper" ∧ sp = sp_after_whisper K mg)
theorem step_ok (T : Top K mg) (W : StepsW w K mg) : ∀ x sp, stepS K mg x sp → ∃ f, KDct K w (adr mg "STEPS") x (.ref f) ∧ HeldR P w K mg base 9 f sp := fun x sp h => by
  rcases h with ⟨rfl, rfl⟩ | ⟨rfl, rfl⟩
  · obtain ⟨f, g, hf⟩ := OkM.held ((ok_after_call (P := P) (w := w) (base := base) T).mono (show 7 ≤ 9 by decide))
    have := W.at_ "call" "after_call" (by decide +kernel)
    rw [adr_of g] at this
    exact ⟨f, this, hf⟩
  · obtain ⟨f, g, hf⟩ := OkM.held ((ok_after_whisper (P := P) (w := w) (base := base) T).mono (show 7 ≤ 9 by decide))
    have := W.at_ "whisper" "after_whisper" (by decide +kernel)
    rw [adr_of g] at this
    exact ⟨f, this, hf⟩
def sp_bcall (K : PySem.W.Frag) (mg : Str → Option Value) : Sp := fun vs H Q _ => ∃ (b e : Addr) (q : BookS) (x : Str) (r : List Int) (m : Mom), vs = [.ref b, .str x, .ref e] ∧ BookAt K mg H b q ∧ q.amid = false ∧ q.deeds.length < 60 ∧ q.moms[q.moms.length - 1]? = some m ∧ MomOk 900 m ∧ SqT K H e (r.map V.int) ∧ RowsOk m.p m.n [r] ∧ x ∈ m.hands.map Prod.fst ∧ hasR m.p m.n (plainR m.p m.n (heardM m [x])) r = true ∧
  ∀ H', Xc b H H' → BookAt K mg H' b (q.push (callM m r) (.call x r)) → Q .non H'
theorem ok_Book_call (T : Top K mg) (W : StepsW w K mg) : OkM P w K mg base 12 "Book" "call" ["self", "hand", "row"] [] (sp_bcall K mg) := by
  have O_Book_refuse_amid := ok_Book_refuse_amid (P := P) (w := w) (base := base) T
  have O_Book_perform := ok_Book_perform (P := P) (w := w) (base := base) T W (step_ok T W)
  refine T.d_Book_call.ok sc_Book_call (fun vs H Q E h => ?_) (fun f cdv A outer s H vs Q E hr h => ?_)
  · obtain ⟨b, e, q, x, r, m, rfl, _⟩ := h
    rfl
  · obtain ⟨b, e, q, x, r, m, rfl, B, am, few, gm, M, he, ok, mx, has, k⟩ := h
    obtain ⟨⟨dx, w', t', u, v', ws, eb, h1, h2, h3, h4, h5⟩, nd, len⟩ := id B
    refine ⟨_, ((pss_cons (ps_expr (pe_methO0 O_Book_refuse_amid T.k_Book (hr.mono (by omega)) (pv 0)))
      (pss_one (ps_expr (pe_methO O_Book_perform T.k_Book (hr.mono (by omega)) (pv 0) (pa_cons (pe_tup (pa_cons pe_str (pa_cons (pv 1) (pa_cons (pv 2) pa_nil)))) pa_nil)))))), ?_⟩
    refine ⟨.ref b, rfl, b, dx, _, rfl, eb, bookF_none (by decide +kernel) (by decide +kernel) (by decide +kernel) (by decide +kernel) (by decide +kernel), b, q, rfl, B, am, ?_⟩
    refine ⟨.ref b, rfl, b, dx, _, rfl, eb, bookF_none (by decide +kernel) (by decide +kernel) (by decide +kernel) (by decide +kernel) (by decide +kernel), .str x, rfl, .ref e, rfl, sz1000 (by decide : (3 : Nat) ≤ 1000), fun z1 nz1 => ?_⟩
    generalize h1' : upd H z1 _ = H1
    obtain ⟨s1, e1⟩ := new_of h1' nz1
    refine ⟨b, z1, q, .call x r, "call", _, _, m, callM m r, rfl, B.same s1, few, .inl (.inl e1), .inl ⟨rfl, rfl⟩, .tup (.inl (.inl e1)) (.cons (.str _) (.cons (.str x) (.cons (row_dp (Same.tup s1 he)) .nil))), gm, fun a H' Q' s' ma kk => ?_, fun H' x' B' => k H' ((Xc.of s1).trans x') B'⟩
    exact ⟨a, e, x, r, m, rfl, ma, M, Same.tup (s1.trans s') he, ok, mx, has, fun H2 a' s2 at2 => kk H2 a' s2 at2⟩
def sp_bback (K : PySem.W.Frag) (mg : Str → Option Value) : Sp := fun vs H Q _ => ∃ (b : Addr) (q : BookS), vs = [.ref b] ∧ BookAt K mg H b q ∧ q.amid = false ∧ 1 ≤ q.deeds.length ∧
  ∀ H', Xc b H H' → BookAt K mg H' b q.pop → Q .non H'
theorem ok_Book_back (T : Top K mg) : OkM P w K mg base 2 "Book" "back" ["self"] [] (sp_bback K mg) := by
  have O_Book_refuse_amid := ok_Book_refuse_amid (P := P) (w := w) (base := base) T
  refine T.d_Book_back.ok sc_Book_back (fun vs H Q E h => ?_) (fun f cdv A outer s H vs Q E hr h => ?_)
  · obtain ⟨b, q, rfl, _⟩ := h
    rfl
  · obtain ⟨b, q, rfl, B, am, few, k⟩ := h
    obtain ⟨⟨dx, w', t', u, v', ws, eb, h1, h2, h3, h4, h5⟩, nd, len⟩ := id B
    obtain ⟨wu, hu, du, lu⟩ := deeds_of h3
    refine ⟨_, ((pss_cons (ps_expr (pe_methO0 O_Book_refuse_amid T.k_Book (hr.mono (by omega)) (pv 0)))
      (pss_cons (ps_if (pt_cmpR op_eq (pe_callB call_len_seq (by rfl) T.b_len (by decide +kernel) (pa_cons (pe_fld (pv 0) (by rfl)) pa_nil)) pe_int (nomark _))
        (pss_one ps_dead)
        pss_nil)
      (pss_cons (ps_fld (pv 0) (pe_slice sl_tupB (pe_fld (pv 0) (by rfl)) po_none (po_some (pe_un un_neg pe_int))) (by rfl))
      (pss_one (ps_fld (pv 0) (pe_slice sl_tupB (pe_fld (pv 0) (by rfl)) po_none (po_some (pe_un un_neg pe_int))) (by rfl))))))), ?_⟩
    refine ⟨.ref b, rfl, b, dx, _, rfl, eb, bookF_none (by decide +kernel) (by decide +kernel) (by decide +kernel) (by decide +kernel) (by decide +kernel), b, q, rfl, B, am, ?_⟩
    refine ⟨.ref b, rfl, b, _, dx, _, _, rfl, eb, T.k_Book.cl, T.na_Book_done, bookF_done, u, _, rfl, .inr hu, rfl, _, rfl, ?_⟩
    rw [decide_eq_false (show ¬ (V.int (wu.length : Int) = V.int 0) from fun z => by injection z; omega)]
    refine iteF ?_
    refine ⟨.ref b, rfl, b, _, dx, _, _, rfl, eb, T.k_Book.cl, T.na_Book_moments, bookF_moments, 1, rfl, -1, rfl, t', ws, rfl, h1, fun p1 H1 s1 e1 => ?_⟩
    rw [cut_lastB] at e1
    refine ⟨.ref b, rfl, b, _, dx, _, rfl, s1 _ _ eb, T.k_Book.cl, T.na_Book_moments, by rw [bookF_len]; decide, ?_⟩
    rw [bookF_setMoments]
    have x2 : Xc b H1 (upd H1 b (.ins (adr mg "Book") dx (bookF w' p1 u v' q.amid))) := xc_upd
    have b2 : (upd H1 b (.ins (adr mg "Book") dx (bookF w' p1 u v' q.amid))) b = some (.ins (adr mg "Book") dx (bookF w' p1 u v' q.amid)) := upd_same
    generalize upd H1 b _ = H2 at x2 b2 ⊢
    have x12 : Xc b H H2 := (Xc.of s1).trans x2
    have m12 : Mv mg H H2 := x12.mv eb
    refine ⟨.ref b, rfl, b, _, dx, _, _, rfl, b2, T.k_Book.cl, T.na_Book_done, bookF_done, 1, rfl, -1, rfl, u, wu, rfl, m12.tk _ _ _ hu, fun p3 H3 s3 e3 => ?_⟩
    rw [cut_lastB] at e3
    refine ⟨.ref b, rfl, b, _, dx, _, rfl, s3 _ _ b2, T.k_Book.cl, T.na_Book_done, by rw [bookF_len]; decide, ?_⟩
    rw [bookF_setDone]
    generalize he : upd H3 b _ = He
    have x3 : Xc b H3 He := by rw [← he]; exact xc_upd
    have be : He b = some (.ins (adr mg "Book") dx (bookF w' p1 p3 v' q.amid)) := by rw [← he]; exact upd_same
    have xe := x12.trans ((Xc.of s3).trans x3)
    have me : Mv mg H He := xe.mv eb
    have m1e : Mv mg H1 He := (x2.trans ((Xc.of s3).trans x3)).mv (s1 _ _ eb)
    have m3e : Mv mg H3 He := x3.mv (s3 _ _ b2)
    have lm := h2.len
    refine k He xe ⟨⟨dx, w', p1, p3, v', _, be, m1e.tk _ _ _ e1, ?_, ?_, dp_tk me.tk _ _ nd.1 h4, dp_tk me.tk _ _ (noL_tup nd.2) h5⟩, nd, ?_⟩
    · show MomsAt K mg He _ q.moms.dropLast
      rw [List.dropLast_eq_take, lm]
      exact MomsAt.take _ (h2.mv me)
    · refine .tup (m3e.tk _ _ _ e3) ?_
      show DpAll K He _ (q.deeds.dropLast.map deedD)
      rw [List.dropLast_eq_take, List.map_take, lu]
      exact dpAll_take _ (dpAll_tk me.tk _ _ (noL_deeds _) du)
    · show q.moms.dropLast.length = q.deeds.dropLast.length + 1
      rw [List.length_dropLast, List.length_dropLast, len]
      omega
section
variable {B : Nat} {m : Mom} {r : List Int} {x : Str}
theorem open_call (M : MomOk B m) (ok : RowsOk m.p m.n [r]) : (callM m r).openM = plainR m.p m.n (m.openM ++ [r]) := (plainR_app M.fld M.okc ok).symm
theorem rooms_call (M : MomOk B m) (ok : RowsOk m.p m.n [r]) : (callM m r).roomsM = heardH m.p m.n r m.roomsM := by
  unfold Mom.roomsM heardH callM
  rw [List.map_map, List.map_map]
  refine List.map_congr_left fun h hh => ?_
  show (h.1, plainR m.p m.n (h.2 ++ [r])) = (h.1, plainR m.p m.n (plainR m.p m.n h.2 ++ [r]))
  rw [plainR_app M.fld (M.okh h hh) ok]
end
structure BookI (p : Int) (n : Nat) (nm : List Str) (B : Nat) (q : BookS) : Prop where
  amid : q.amid = false
  ok : ∀ m ∈ q.moms, MomOk B m ∧ m.p = p ∧ m.n = n ∧ m.hands.map Prod.fst = nm
  row : ∀ (x : Str) (r : List Int), Deed.call x r ∈ q.deeds → RowsOk p n [r]
  few : q.deeds.length ≤ B
  len : q.moms.length = q.deeds.length + 1
theorem BookI.last {p : Int} {n : Nat} {nm : List Str} {B : Nat} {q : BookS} (I : BookI p n nm B q) : ∃ m, q.moms[q.moms.length - 1]? = some m ∧ MomOk B m ∧ m.p = p ∧ m.n = n ∧ m.hands.map Prod.fst = nm := by
  have l := I.len
  have g : q.moms[q.moms.length - 1]? = some (q.moms[q.moms.length - 1]'(by omega)) := List.getElem?_eq_getElem (by omega)
  exact ⟨_, g, I.ok _ (List.mem_of_getElem? g)⟩
theorem BookI.push {p : Int} {n : Nat} {nm : List Str} {B : Nat} {q : BookS} {m' : Mom} {d : Deed} (I : BookI p n nm B q) (M : MomOk (B + 1) m') (e1 : m'.p = p) (e2 : m'.n = n) (e3 : m'.hands.map Prod.fst = nm) (hd : ∀ x r, d = .call x r → RowsOk p n [r]) : BookI p n nm (B + 1) (q.push m' d) where
  amid := I.amid
  ok := fun m hm => by
    rcases List.mem_append.mp hm with hm | hm
    · obtain ⟨a, b⟩ := I.ok m hm
      exact ⟨a.mono (Nat.le_succ _), b⟩
    · rw [List.mem_singleton.mp hm]
      exact ⟨M, e1, e2, e3⟩
  row := fun x r hm => by
    rcases List.mem_append.mp hm with hm | hm
    · exact I.row x r hm
    · exact hd x r (List.mem_singleton.mp hm).symm
  few := by
    show (q.deeds ++ [d]).length ≤ B + 1
    rw [List.length_append, List.length_singleton]
    have := I.few
    omega
  len := by
    show (q.moms ++ [m']).length = (q.deeds ++ [d]).length + 1
    rw [List.length_append, List.length_append, I.len]
    rfl
theorem push_last (q : BookS) (m : Mom) (d : Deed) : (q.push m d).moms[(q.push m d).moms.length - 1]? = some m := by
  show (q.moms ++ [m])[(q.moms ++ [m]).length - 1]? = some m
  rw [List.length_append, List.length_singleton, Nat.add_sub_cancel, List.getElem?_append_right (Nat.le_refl _), Nat.sub_self]
  rfl
theorem BookI.mono {p : Int} {n : Nat} {nm : List Str} {B B' : Nat} {q : BookS} (I : BookI p n nm B q) (h : B ≤ B') : BookI p n nm B' q where
  amid := I.amid
  ok := fun m hm => ⟨(I.ok m hm).1.mono h, (I.ok m hm).2⟩
  row := I.row
  few := Nat.le_trans I.few h
  len := I.len
end
end OC
set_option Elab.async false
set_option linter.all false
set_option maxRecDepth 100000
set_option maxHeartbeats 4000000
namespace OC
open PySem PySem.Spec PyProof.Rows L2
section
variable {P : Program} {w : World} {K : PySem.W.Frag} {mg : Str → Option Value} {base : Heap}
def sp_why_at (K : PySem.W.Frag) (mg : Str → Option Value) : Sp := fun vs H Q _ => ∃ (a b e : Addr) (m : Mom) (ns : List Str) (r : List Int), vs = [.ref a, .ref b, .ref e] ∧ MomAt K mg H a m ∧ SqT K H b (ns.map V.str) ∧ SqT K H e (r.map V.int) ∧ MomOk 1000 m ∧ RowsOk m.p m.n [r] ∧ (heardM m ns).length ≤ 100 ∧
  (hasR m.p m.n (heardM m ns) r = false → ∀ H' t l wd, Same H H' → SqT K H' t [.str "parted", .ref l] → RowsAt K H' l [List.replicate m.n 0, wd] → RowsOk m.p m.n [wd] → (∀ x ∈ heardM m ns, worthR m.p x wd = 0) → worthR m.p r wd ≠ 0 → Q (.ref t) H') ∧
  (hasR m.p m.n (heardM m ns) r = true → ∀ H' t l fs, Same H H' → SqT K H' t [.str "makes", .ref l] → H' l = some (.tup (fs.map V.int)) → fs.length = (heardM m ns).length → (∀ x ∈ fs, 0 ≤ x ∧ x < m.p) → madeR m.p (List.replicate m.n 0) ((heardM m ns).zip fs) = r → Q (.ref t) H')
theorem ok_why_at (T : Top K mg) : Ok P w K mg base 8 "why_at" ["moment", "names", "row"] (sp_why_at K mg) := by
  have O_heard_at := ok_heard_at (P := P) (w := w) (base := base) T
  have O_makes := ok_makes (P := P) (w := w) (base := base) T
  have O_parted := ok_parted (P := P) (w := w) (base := base) T
  refine T.d_why_at.ok sc_why_at (fun vs H Q E h => ?_) (fun f cdv A outer s H vs Q E hr h => ?_)
  · obtain ⟨a, b, e, m, ns, r, rfl, _⟩ := h
    rfl
  · obtain ⟨a, b, e, m, ns, r, rfl, ma, hb, he, M, okr, l100, q1, q2⟩ := h
    obtain ⟨dx, c, h, ea, hc, hh⟩ := id ma
    refine ⟨_, ((pss_cons (ps_set (i := 3) sc_why_at.nd rfl (.inl rfl) (pe_callO O_heard_at (hr.mono (by omega)) (by rfl) (pa_cons (pv 0) (pa_cons (pv 1) pa_nil))))
      (pss_cons (ps_set (i := 4) sc_why_at.nd rfl (.inl rfl) (pe_callO O_makes (hr.mono (by omega)) (by rfl) (pa_cons (pe_fld (pv 0) (by rfl)) (pa_cons (pe_fld (pv 0) (by rfl)) (pa_cons (pv 3) (pa_cons (pv 2) pa_nil))))))
      (pss_cons (ps_if (pt_cmpR op_isN (pv 4) pe_non (nomark _))
        (pss_one (ps_ret (pe_tup (pa_cons pe_str (pa_cons (pe_callO O_parted (hr.mono (by omega)) (by rfl) (pa_cons (pe_fld (pv 0) (by rfl)) (pa_cons (pe_fld (pv 0) (by rfl)) (pa_cons (pv 3) (pa_cons (pv 2) pa_nil))))) pa_nil)))))
        pss_nil)
      (pss_one (ps_ret (pe_tup (pa_cons pe_str (pa_cons (pv 4) pa_nil))))))))), ?_⟩
    have many := M.many
    have n8 := M.n8
    have n1 := M.n1
    have p1 := M.p1
    have F1 : ∀ {H' : Hp}, Same H H' → H' a = some (.ins (adr mg "Moment") dx (momF m.p m.n c h)) := fun s => s _ _ ea
    refine ⟨.ref a, rfl, .ref b, rfl, a, b, m, ns, rfl, ma, hb, by omega, M.lh, fun H1 l1 s1 r1 => ?_⟩
    have okh := heard_ok M ns
    refine ⟨.ref a, rfl, a, _, dx, _, _, rfl, F1 s1, T.k_Moment.cl, T.na_Moment_p, momF_p, .ref a, rfl, a, _, dx, _, _, rfl, F1 s1, T.k_Moment.cl, T.na_Moment_n, momF_n, .ref l1, rfl, .ref e, rfl, ?_⟩
    refine ⟨l1, e, heardM m ns, r, m.p, m.n, rfl, r1, Same.tup s1 he, okh, okr, l100, M.fld, n1, by omega, p1, fun hf H2 s2 => ?_, fun ht H2 l fs s2 el lf fb md => ?_⟩
    · have s12 := s1.trans s2
      refine ⟨.non, rfl, rfl, _, rfl, ?_⟩
      rw [decide_eq_true rfl]
      refine iteT ⟨.ref a, rfl, a, _, dx, _, _, rfl, F1 s12, T.k_Moment.cl, T.na_Moment_p, momF_p, .ref a, rfl, a, _, dx, _, _, rfl, F1 s12, T.k_Moment.cl, T.na_Moment_n, momF_n, .ref l1, rfl, .ref e, rfl, ?_⟩
      refine ⟨l1, e, heardM m ns, r, m.p, m.n, rfl, r1.same s2, Same.tup s12 he, okh, okr, M.fld, n1, by omega, p1, fun ht => ?_, fun _ H3 l wd s3 rl okw w0 w1 => ⟨sz1000 (by decide : (2 : Nat) ≤ 1000), fun z nz => ?_⟩⟩
      · rw [hf] at ht
        cases ht
      · generalize h4 : upd H3 z _ = H4
        obtain ⟨s4, e4⟩ := new_of h4 nz
        exact q1 hf H4 z l wd (s12.trans (s3.trans s4)) (.inl (.inl e4)) (rl.same s4) okw w0 w1
    · refine ⟨.ref l, rfl, rfl, _, rfl, ?_⟩
      rw [decide_eq_false (fun z => nomatch z)]
      refine iteF ⟨.ref l, rfl, sz1000 (by decide : (2 : Nat) ≤ 1000), fun z nz => ?_⟩
      generalize h4 : upd H2 z _ = H4
      obtain ⟨s4, e4⟩ := new_of h4 nz
      exact q2 ht H4 z l fs (s1.trans (s2.trans s4)) (.inl (.inl e4)) (s4 _ _ el) lf fb md
def sp_bheard (K : PySem.W.Frag) (mg : Str → Option Value) : Sp := fun vs H Q _ => ∃ (b c : Addr) (q : BookS) (v : V) (i : Nat) (ns : List Str) (m : Mom), vs = [.ref b, .ref c, v] ∧ BookAt K mg H b q ∧ AtIdx q v i ∧ q.moms[i]? = some m ∧ MomOk 1000 m ∧ SqT K H c (ns.map V.str) ∧ ns.Pairwise sl ∧ ns.length ≤ 100 ∧ (∀ x ∈ ns, x ∈ m.hands.map Prod.fst) ∧
  ∀ H' l, Same H H' → RowsAt K H' l (heardM m ns) → Q (.ref l) H'
theorem ok_Book_heard (T : Top K mg) : OkM P w K mg base 7 "Book" "heard" ["self", "hands", "at"] [.non] (sp_bheard K mg) := by
  have O_Book_moment_of := ok_Book_moment_of (P := P) (w := w) (base := base) T
  have O_heard_at := ok_heard_at (P := P) (w := w) (base := base) T
  refine T.d_Book_heard.ok sc_Book_heard (fun vs H Q E h => ?_) (fun f cdv A outer s H vs Q E hr h => ?_)
  · obtain ⟨b, c, q, v, i, ns, m, rfl, _⟩ := h
    rfl
  · obtain ⟨b, c, q, v, i, ns, m, rfl, B, hi, gm, M, hc, srt, l100, inn, k'⟩ := h
    obtain ⟨⟨dx, w', t, u, v', ws, eb, h1, h2, h3, h4, h5⟩, nd, len⟩ := id B
    refine ⟨_, ((pss_one (ps_ret (pe_callO O_heard_at (hr.mono (by omega)) (by rfl) (pa_cons (pe_methO O_Book_moment_of T.k_Book (hr.mono (by omega)) (pv 0) (pa_cons (pv 1) (pa_cons pe_int (pa_cons (pv 2) pa_nil)))) (pa_cons (pv 1) pa_nil)))))), ?_⟩
    have many := M.many
    refine ⟨.ref b, rfl, b, dx, _, rfl, eb, bookF_none (by decide +kernel) (by decide +kernel) (by decide +kernel) (by decide +kernel) (by decide +kernel), .ref c, rfl, v, rfl, b, c, q, v, i, 0, ns, m, rfl, B, hi, gm, M, hc, srt, by omega, l100, inn, fun H1 a s1 hm => ?_⟩
    exact ⟨.ref c, rfl, a, c, m, ns, rfl, hm, Same.tup s1 hc, by omega, M.lh, fun H2 l s2 r2 => k' H2 l (s1.trans s2) r2⟩
def sp_bwhy (K : PySem.W.Frag) (mg : Str → Option Value) : Sp := fun vs H Q _ => ∃ (b c e : Addr) (q : BookS) (v : V) (i : Nat) (ns : List Str) (r : List Int) (m : Mom), vs = [.ref b, .ref c, .ref e, v] ∧ BookAt K mg H b q ∧ AtIdx q v i ∧ q.moms[i]? = some m ∧ MomOk 1000 m ∧ SqT K H c (ns.map V.str) ∧ ns.Pairwise sl ∧ ns.length ≤ 100 ∧ (∀ x ∈ ns, x ∈ m.hands.map Prod.fst) ∧ SqT K H e (r.map V.int) ∧ RowsOk m.p m.n [r] ∧ (heardM m ns).length ≤ 100 ∧
  (hasR m.p m.n (heardM m ns) r = false → ∀ H' t l wd, Same H H' → SqT K H' t [.str "parted", .ref l] → RowsAt K H' l [List.replicate m.n 0, wd] → RowsOk m.p m.n [wd] → (∀ x ∈ heardM m ns, worthR m.p x wd = 0) → worthR m.p r wd ≠ 0 → Q (.ref t) H') ∧
  (hasR m.p m.n (heardM m ns) r = true → ∀ H' t l fs, Same H H' → SqT K H' t [.str "makes", .ref l] → H' l = some (.tup (fs.map V.int)) → fs.length = (heardM m ns).length → (∀ x ∈ fs, 0 ≤ x ∧ x < m.p) → madeR m.p (List.replicate m.n 0) ((heardM m ns).zip fs) = r → Q (.ref t) H')
theorem ok_Book_why (T : Top K mg) : OkM P w K mg base 9 "Book" "why" ["self", "hands", "row", "at"] [.non] (sp_bwhy K mg) := by
  have O_Book_moment_of := ok_Book_moment_of (P := P) (w := w) (base := base) T
  have O_why_at := ok_why_at (P := P) (w := w) (base := base) T
  have O_check_row := ok_check_rowB (P := P) (w := w) (base := base) T
  refine T.d_Book_why.ok sc_Book_why (fun vs H Q E h => ?_) (fun f cdv A outer s H vs Q E hr h => ?_)
  · obtain ⟨b, c, e, q, v, i, ns, r, m, rfl, _⟩ := h
    rfl
  · obtain ⟨b, c, e, q, v, i, ns, r, m, rfl, B, hi, gm, M, hc, srt, l100, inn, he, ok, lh, k1, k2⟩ := h
    obtain ⟨⟨dx, w', t, u, v', ws, eb, h1, h2, h3, h4, h5⟩, nd, len⟩ := id B
    refine ⟨_, ((pss_cons (ps_set (i := 4) sc_Book_why.nd rfl (.inl rfl) (pe_methO O_Book_moment_of T.k_Book (hr.mono (by omega)) (pv 0) (pa_cons (pv 1) (pa_cons pe_int (pa_cons (pv 3) pa_nil)))))
      (pss_cons (ps_expr (pe_callO O_check_row (hr.mono (by omega)) (by rfl) (pa_cons (pe_fld (pv 4) (by rfl)) (pa_cons (pe_fld (pv 4) (by rfl)) (pa_cons (pv 2) pa_nil)))))
      (pss_one (ps_ret (pe_callO O_why_at (hr.mono (by omega)) (by rfl) (pa_cons (pv 4) (pa_cons (pv 1) (pa_cons (pv 2) pa_nil))))))))), ?_⟩
    refine ⟨.ref b, rfl, b, dx, _, rfl, eb, bookF_none (by decide +kernel) (by decide +kernel) (by decide +kernel) (by decide +kernel) (by decide +kernel), .ref c, rfl, v, rfl, b, c, q, v, i, 0, ns, m, rfl, B, hi, gm, M, hc, srt, by omega, l100, inn, fun H1 a s1 hm => ?_⟩
    obtain ⟨dm, cm, hh, ea, hcm, hhm⟩ := id hm
    have n8 := M.n8
    have lr := (ok r List.mem_cons_self).1
    refine ⟨.ref a, rfl, a, _, dm, _, _, rfl, ea, T.k_Moment.cl, T.na_Moment_p, momF_p, .ref a, rfl, a, _, dm, _, _, rfl, ea, T.k_Moment.cl, T.na_Moment_n, momF_n, .ref e, rfl, ?_⟩
    refine ⟨e, r, m.p, m.n, rfl, Same.tup s1 he, ok, by omega, fun H2 s2 => ?_⟩
    have s12 := s1.trans s2
    exact ⟨.ref a, rfl, .ref c, rfl, .ref e, rfl, a, c, e, m, ns, r, rfl, hm.same s2, Same.tup s12 hc, Same.tup s12 he, M, ok, lh, fun hf H' t l wd s => k1 hf H' t l wd (s12.trans s), fun ht H' t l fs s => k2 ht H' t l fs (s12.trans s)⟩
/-- the hands that know more, and how much -/
def gainL (m m' : Mom) : List (Str × Int) := ((m'.hands.map Prod.fst).map fun x => (x, ((plainR m'.p m'.n (heardM m' [x])).length : Int) - ((plainR m.p m.n (heardM m [x])).length : Int))).filter fun z => decide (z.2 > 0)
def pairD (z : Str × Int) : PyData := .tuple [.str z.1, .int z.2]
theorem noL_pairs : ∀ zs : List (Str × Int), noLAll (zs.map pairD) = true
  | [] => rfl
  | z :: zs => by
    have := noL_pairs zs
    simp only [List.map_cons, noLAll, pairD, noL, Bool.true_and]
    exact this
def sp_gained (K : PySem.W.Frag) (mg : Str → Option Value) : Sp := fun vs H Q _ => ∃ (a b : Addr) (m m' : Mom), vs = [.ref a, .ref b] ∧ MomAt K mg H a m ∧ MomAt K mg H b m' ∧ MomOk 1000 m ∧ MomOk 1000 m' ∧
  ∀ H' l, Same H H' → Dp K H' (.ref l) (.tuple ((gainL m m').map pairD)) → Q (.ref l) H'
theorem ok_gained (T : Top K mg) : Ok P w K mg base 8 "gained" ["ahead", "later"] (sp_gained K mg) := by
  have O_names_at := ok_names_at (P := P) (w := w) (base := base) T
  have O_known_at := ok_known_at (P := P) (w := w) (base := base) T
  refine T.d_gained.ok sc_gained (fun vs H Q E h => ?_) (fun f cdv A outer s H vs Q E hr h => ?_)
  · obtain ⟨a, b, m, m', rfl, _⟩ := h
    rfl
  · obtain ⟨a, b, m, m', rfl, ma, mb, M, M', k⟩ := h
    refine ⟨_, ((pss_cons (ps_set (i := 2) sc_gained.nd rfl (.inl rfl) (pe_lst pa_nil))
      (pss_cons (ps_for PassesOwn.never (by rfl) (pi_tup (pe_callO O_names_at (hr.mono (by omega)) (by rfl) (pa_cons (pv 1) pa_nil))) (pg_name (i := 3) sc_gained.nd rfl (.inl rfl))
        (pss_cons (ps_set (i := 4) sc_gained.nd rfl (.inl rfl) (pe_op op_sub (pe_callB call_len_seq (by rfl) T.b_len (by decide +kernel) (pa_cons (pe_callO O_known_at (hr.mono (by omega)) (by rfl) (pa_cons (pv 1) (pa_cons (pe_tup (pa_cons (pv 3) pa_nil)) pa_nil))) pa_nil)) (pe_callB call_len_seq (by rfl) T.b_len (by decide +kernel) (pa_cons (pe_callO O_known_at (hr.mono (by omega)) (by rfl) (pa_cons (pv 0) (pa_cons (pe_tup (pa_cons (pv 3) pa_nil)) pa_nil))) pa_nil))))
        (pss_one (ps_if (pt_cmpR op_gt (pv 4) pe_int (nomark _))
          (pss_one (ps_expr (pe_bm PySem.F.plainAttrs_list PySem.F.slot_list_append PySem.F.type_list_append mt_append (pv 2) (pa_cons (pe_tup (pa_cons (pv 3) (pa_cons (pv 4) pa_nil))) pa_nil))))
          pss_nil))))
      (pss_one (ps_ret (pe_callTy call_tuple_of (by rfl) T.b_tuple (by decide +kernel) (pa_cons (pv 2) pa_nil))))))), ?_⟩
    have many := M'.many
    refine ⟨Nat.zero_le _, fun L nL => ?_⟩
    generalize hL : upd H L _ = H0
    obtain ⟨s0, e0⟩ := new_of hL nL
    refine ⟨.ref b, rfl, b, m', rfl, mb.same s0, by omega, fun H1 l1 s1 h1 => ?_⟩
    have nms : ((m'.hands.map Prod.fst).map V.str).length = m'.hands.length := by rw [List.length_map, List.length_map]
    have L0 : SqT K H1 l1 ((m'.hands.map Prod.fst).map V.str) := h1
    generalize hnm : m'.hands.map Prod.fst = nm at L0 nms
    have lnm : nm.length = m'.hands.length := by rw [← hnm, List.length_map]
    refine ⟨l1, rfl, ⟨_, L0⟩, for_it (walk_tup (K := K) (a := l1) (xs := nm.map V.str)) (fun i σ H' => Same H H' ∧ SqT K H' l1 (nm.map V.str) ∧ (∃ ws : List V, H' L = some (.lst ws) ∧ ws.length ≤ i ∧ DpAll K H' ws ((((nm.take i).map fun x => (x, ((plainR m'.p m'.n (heardM m' [x])).length : Int) - ((plainR m.p m.n (heardM m [x])).length : Int))).filter fun z => decide (z.2 > 0)).map pairD)) ∧ ∃ y3 y4 : Option V, σ = [some (.ref a), some (.ref b), some (.ref L), y3, y4]) ⟨s0.trans s1, L0, ⟨[], s1 _ _ e0, Nat.zero_le _, by rw [List.take_zero]; exact .nil⟩, none, none, rfl⟩ (fun i σ H' _ hW => hW.2.1) (fun i v σ H2 H3 hi hW hY => ?_) (fun σ H2 hW => ?_)⟩
    · obtain ⟨rfl, hx⟩ := hY
      obtain ⟨s2, hl2, ⟨ws, eL, lw, dl⟩, y3, y4, rfl⟩ := hW
      rw [List.getElem?_map] at hx
      obtain ⟨y, gy, rfl⟩ := Option.map_eq_some_iff.mp hx
      refine ⟨.ref b, rfl, .str y, rfl, sz1000 (by decide : (1 : Nat) ≤ 1000), fun z nz => ?_⟩
      generalize h4 : upd H3 z _ = H4
      obtain ⟨s4, e4⟩ := new_of h4 nz
      have z4 : SqT K H4 z ([y].map V.str) := .inl (.inl e4)
      refine ⟨b, z, m', [y], rfl, mb.same (s2.trans s4), z4, M', fun H5 l5 s5 r5 => ?_⟩
      obtain ⟨w5, h5, d5⟩ := r5
      have lw5 := rows_len d5
      refine ⟨l5, w5, rfl, .inr h5, .ref a, rfl, .str y, rfl, sz1000 (by decide : (1 : Nat) ≤ 1000), fun z6 nz6 => ?_⟩
      generalize h6 : upd H5 z6 _ = H6
      obtain ⟨s6, e6⟩ := new_of h6 nz6
      have z6' : SqT K H6 z6 ([y].map V.str) := .inl (.inl e6)
      have s26 := s2.trans (s4.trans (s5.trans s6))
      refine ⟨a, z6, m, [y], rfl, ma.same s26, z6', M, fun H7 l7 s7 r7 => ?_⟩
      obtain ⟨w7, h7, d7⟩ := r7
      have lw7 := rows_len d7
      refine ⟨l7, w7, rfl, .inr h7, _, _, rfl, rfl, ?_⟩
      rw [lw5, lw7]
      have s37 := s4.trans (s5.trans (s6.trans s7))
      have eL7 := s37 _ _ eL
      have hl7 := Same.tup s37 hl2
      have dl7 := dpAll_same s37 _ _ dl
      have tk1 : ∀ g : Int, g = ((plainR m'.p m'.n (heardM m' [y])).length : Int) - ((plainR m.p m.n (heardM m [y])).length : Int) → (((nm.take (i + 1)).map fun x => (x, ((plainR m'.p m'.n (heardM m' [x])).length : Int) - ((plainR m.p m.n (heardM m [x])).length : Int))).filter fun z => decide (z.2 > 0)) = (((nm.take i).map fun x => (x, ((plainR m'.p m'.n (heardM m' [x])).length : Int) - ((plainR m.p m.n (heardM m [x])).length : Int))).filter fun z => decide (z.2 > 0)) ++ (if g > 0 then [(y, g)] else []) := fun g hg => by
        rw [List.take_add_one, gy, List.map_append, List.filter_append]
        congr 1
        show List.filter _ [(y, _)] = _
        rw [← hg]
        by_cases h0 : g > 0
        · rw [if_pos h0]
          exact List.filter_cons_of_pos (decide_eq_true h0)
        · rw [if_neg h0]
          exact List.filter_cons_of_neg (by rw [decide_eq_false h0]; decide)
      dsimp only
      generalize hg : ((plainR m'.p m'.n (heardM m' [y])).length : Int) - ((plainR m.p m.n (heardM m [y])).length : Int) = gg
      have tk2 := tk1 gg hg.symm
      refine ⟨.int gg, rfl, _, _, rfl, rfl, _, rfl, ?_⟩
      refine ite2 (fun h0 => ?_) (fun h0 => ?_)
      · have h0 : gg > 0 := by
          have := of_decide_eq_true h0
          omega
        refine ⟨.ref L, rfl, .inl ⟨rfl, _, .inl (.inl eL7)⟩, .str y, rfl, .int gg, rfl, sz1000 (by decide : (2 : Nat) ≤ 1000), fun z8 nz8 => ?_⟩
        generalize h8 : upd H7 z8 _ = H8
        obtain ⟨s8, e8⟩ := new_of h8 nz8
        have eL8 := s8 _ _ eL7
        refine ⟨L, ws, .ref z8, rfl, rfl, eL8, small1000 (by omega), ?_⟩
        have tk := (Tk.refl H8).mut eL8 (ys := ws ++ [.ref z8])
        refine ⟨same_mut (s26.trans (s7.trans s8)) nL, tk _ _ _ (Same.tup s8 hl7), ⟨ws ++ [.ref z8], upd_same, by rw [List.length_append, List.length_singleton]; omega, ?_⟩, _, _, rfl⟩
        rw [tk2, if_pos h0, List.map_append]
        exact dpAll_append (dpAll_tk tk _ _ (noL_pairs _) (dpAll_same s8 _ _ dl7)) (.cons (.tup (tk _ _ _ (.inl (.inl e8))) (.cons (.str y) (.cons (.int gg) .nil))) .nil)
      · have h0 : ¬ gg > 0 := fun z => h0 (decide_eq_true (by omega))
        rw [if_neg h0, List.append_nil] at tk2
        refine ⟨s26.trans (Same.refl _) |>.trans s7, hl7, ⟨ws, eL7, by omega, ?_⟩, _, _, rfl⟩
        rw [tk2]
        exact dl7
    · obtain ⟨s2, hl2, ⟨ws, eL, lw, dl⟩, y3, y4, rfl⟩ := hW
      rw [List.take_of_length_le (by rw [List.length_map]; omega)] at dl
      refine ⟨.ref L, rfl, L, _, rfl, .inl ⟨.inl (.inl eL), fun t nt => ?_⟩⟩
      generalize h9 : upd H2 t _ = H9
      obtain ⟨s9, e9⟩ := new_of h9 nt
      refine k H9 t (s2.trans s9) ?_
      unfold gainL
      rw [hnm]
      exact .tup (.inl (.inl e9)) (dpAll_same s9 _ _ dl)
def sp_blearned (K : PySem.W.Frag) (mg : Str → Option Value) : Sp := fun vs H Q _ => ∃ (b : Addr) (q : BookS) (i : Nat) (m m' : Mom), vs = [.ref b, .int (i : Int)] ∧ BookAt K mg H b q ∧ i < q.deeds.length ∧ q.moms[i]? = some m ∧ q.moms[i + 1]? = some m' ∧ MomOk 1000 m ∧ MomOk 1000 m' ∧
  ∀ H' l, Same H H' → Dp K H' (.ref l) (.tuple ((gainL m m').map pairD)) → Q (.ref l) H'
theorem ok_Book_learned (T : Top K mg) : OkM P w K mg base 9 "Book" "learned" ["self", "number"] [] (sp_blearned K mg) := by
  have O_is_number := ok_is_number (P := P) (w := w) (base := base) T
  have O_gained := ok_gained (P := P) (w := w) (base := base) T
  refine T.d_Book_learned.ok sc_Book_learned (fun vs H Q E h => ?_) (fun f cdv A outer s H vs Q E hr h => ?_)
  · obtain ⟨b, q, i, m, m', rfl, _⟩ := h
    rfl
  · obtain ⟨b, q, i, m, m', rfl, B, hi, g1, g2, M, M', k⟩ := h
    obtain ⟨⟨dx, w', t, u, v', ws, eb, h1, h2, h3, h4, h5⟩, nd, len⟩ := id B
    obtain ⟨wu, hu, du, lu⟩ := deeds_of h3
    refine ⟨_, ((pss_cons (ps_if (PW.pt (pw_or (pt_not (pt_val (pe_callO O_is_number (hr.mono (by omega)) (by rfl) (pa_cons (pv 1) pa_nil)))) (pw_or1 (pt_not (pt_chain op_le op_lt pe_int (pv 1) (pe_callB call_len_seq (by rfl) T.b_len (by decide +kernel) (pa_cons (pe_fld (pv 0) (by rfl)) pa_nil)))))))
        (pss_one ps_dead)
        pss_nil)
      (pss_one (ps_ret (pe_callO O_gained (hr.mono (by omega)) (by rfl) (pa_cons (pe_ix ix_tup (pe_fld (pv 0) (by rfl)) (pv 1) (fun _ _ => rfl)) (pa_cons (pe_ix ix_tup (pe_fld (pv 0) (by rfl)) (pe_op op_add (pv 1) pe_int) (fun _ _ => rfl)) pa_nil))))))), ?_⟩
    refine ⟨.int i, rfl, .int i, .int, rfl, kd_int _, _, rfl, ?_⟩
    obtain ⟨a, ga, ha⟩ := h2.get g1
    obtain ⟨a', ga', ha'⟩ := h2.get g2
    refine iteF ⟨.int i, rfl, 0, _, rfl, rfl, _, rfl, ?_⟩
    rw [decide_eq_true (show (0 : Int) ≤ (i : Int) by omega)]
    refine iteT ⟨.ref b, rfl, b, _, dx, _, _, rfl, eb, T.k_Book.cl, T.na_Book_done, bookF_done, u, _, rfl, .inr hu, _, _, rfl, rfl, _, rfl, ?_⟩
    rw [decide_eq_true (show (i : Int) < (wu.length : Int) by omega)]
    refine iteF ⟨.ref b, rfl, b, _, dx, _, _, rfl, eb, T.k_Book.cl, T.na_Book_moments, bookF_moments, .int i, rfl, t, _, i, .ref a, rfl, rfl, h1, atI_nat ga, ?_⟩
    refine ⟨.ref b, rfl, b, _, dx, _, _, rfl, eb, T.k_Book.cl, T.na_Book_moments, bookF_moments, .int i, rfl, _, _, rfl, rfl, ?_⟩
    exact ⟨t, _, (i : Int) + 1, .ref a', rfl, rfl, h1, atI_nat (j := i + 1) ga', a, a', m, m', rfl, ha, ha', M, M', k⟩
theorem BookAt.nm {K : PySem.W.Frag} {mg : Str → Option Value} {H : Hp} {b : Addr} {q : BookS} (h : BookAt K mg H b q) : ∃ dx fs, H b = some (.ins (adr mg "Book") dx fs) ∧ ∀ f ∈ (["call", "whisper", "stand", "known", "knows", "idle", "back", "why", "heard", "learned"] : List Str), fs.lookup f = none := by
  obtain ⟨dx, fs, e, h⟩ := h.at_
  refine ⟨dx, fs, e, fun f hf => ?_⟩
  simp only [List.mem_cons, List.not_mem_nil, or_false] at hf
  rcases hf with rfl | rfl | rfl | rfl | rfl | rfl | rfl | rfl | rfl | rfl <;> exact h _ (by decide +kernel) (by decide +kernel) (by decide +kernel) (by decide +kernel) (by decide +kernel)
theorem has_one {B : Nat} {m : Mom} {r : List Int} {h : Str × List (List Int)} (M : MomOk B m) (ok : RowsOk m.p m.n [r]) (mh : h ∈ m.hands) (i : InR m.p h.2 r) : hasR m.p m.n (plainR m.p m.n (heardM m [h.1])) r = true := by
  have e0 : heardM m [h.1] = selR [h.1] m.hands := by
    unfold heardM
    rw [if_neg fun z => by cases z]
  rw [e0]
  refine (hasR_plain M.fld (sel_ok M.okh) ok).mpr (InR.mono (fun z hz => InR.mem (sel_in.mpr ⟨h, mh, List.mem_singleton_self _, hz⟩)) i)
theorem mom_start {p : Int} {n : Nat} {kn : List (List Int)} {hs : List (Str × List (List Int))} (S : Stand5 p n kn hs) (h6 : hs.length ≤ 6) : MomOk 8 ⟨p, n, [], hs⟩ where
  fld := S.fld
  p1 := S.p1
  n1 := S.n1
  n8 := S.n8
  okc := fun r hr => nomatch hr
  okh := fun h hh => (S.ph h hh).rows
  inn := fun h hh r hr => nomatch hr
  few := S.few
  many := h6
  srt := S.srt
  nd := S.nd
  nm := S.nm
  lc := Nat.zero_le _
  lh := fun h hh => Nat.le_trans (PFR.len S.fld (S.ph h hh)) S.n8
/-- the moment behind the first rows that all know -/
def momK (p : Int) (n : Nat) (kn : List (List Int)) (hs : List (Str × List (List Int))) : Mom := ⟨p, n, kn, hs.map fun h => (h.1, h.2 ++ kn)⟩
theorem momK_open {p : Int} {n : Nat} {kn : List (List Int)} {hs : List (Str × List (List Int))} (S : Stand5 p n kn hs) : (momK p n kn hs).openM = kn :=
  PFR.ext S.fld (PFR.of_plain S.fld S.pk.rows) S.pk (fun r hr => (InR.plain S.fld S.pk.rows).mp (InR.mem hr)) fun r hr => (InR.plain S.fld S.pk.rows).mpr (InR.mem hr)
theorem momK_rooms {p : Int} {n : Nat} {kn : List (List Int)} {hs : List (Str × List (List Int))} (S : Stand5 p n kn hs) : (momK p n kn hs).roomsM = hs := by
  unfold Mom.roomsM momK
  rw [List.map_map]
  conv => rhs; rw [← List.map_id hs]
  refine List.map_congr_left fun h hh => ?_
  have ok := rowsOk_app (S.ph h hh).rows S.pk.rows
  have e : plainR p n (h.2 ++ kn) = h.2 := PFR.ext S.fld (PFR.of_plain S.fld ok) (S.ph h hh) (fun r hr => by
    refine InR.mono (fun z hz => ?_) ((InR.plain S.fld ok).mp (InR.mem hr))
    rcases List.mem_append.mp hz with hz | hz
    · exact InR.mem hz
    · exact S.inn h hh z hz) fun r hr => (InR.plain S.fld ok).mpr (InR.left (InR.mem hr))
  show (h.1, plainR p n (h.2 ++ kn)) = h
  rw [e]
def sp_lbook8 (K : PySem.W.Frag) (mg : Str → Option Value) : Sp := fun vs H Q _ => ∃ (a : Addr) (p : Int) (n : Nat) (kn : List (List Int)) (hs : List (Str × List (List Int))), vs = [.ref a] ∧ Dp K H (.ref a) (standD p n kn hs) ∧ Stand5 p n kn hs ∧ hs.length ≤ 6 ∧
  ∀ H' b q, Same H H' → H b = none → BookAt K mg H' b q → BookI p n (hs.map Prod.fst) 16 q → q.moms[q.moms.length - 1]? = some (momK p n kn hs) → Q (.ref b) H'
theorem ok__law_book (T : Top K mg) (W : StepsW w K mg) : Ok P w K mg base 13 "_law_book" ["_law_stand_here"] (sp_lbook8 K mg) := by
  have O_Book___init__ := ok_Book___init__ (P := P) (w := w) (base := base) T
  have O_Book_call := ok_Book_call (P := P) (w := w) (base := base) T W
  refine T.d__law_book.ok sc__law_book (fun vs H Q E h => ?_) (fun f cdv A outer s H vs Q E hr h => ?_)
  · obtain ⟨a, p, n, kn, hs, rfl, _⟩ := h
    rfl
  · obtain ⟨a, p, n, kn, hs, rfl, dp, S, h6, q⟩ := h
    refine ⟨_, ((pss_cons (ps_asg (pv 0) (pg_tup (by rfl) (pgs_cons (pg_name (i := 1) sc__law_book.nd rfl (.inl rfl)) (pgs_cons (pg_name (i := 2) sc__law_book.nd rfl (.inl rfl)) (pgs_cons (pg_name (i := 3) sc__law_book.nd rfl (.inl rfl)) (pgs_cons (pg_name (i := 4) sc__law_book.nd rfl (.inl rfl)) pgs_nil))))))
      (pss_cons (ps_set (i := 5) sc__law_book.nd rfl (.inl rfl) (pe_makeO O_Book___init__ T.k_Book (hr.mono (by omega)) (by rfl) (pa_cons (pv 1) (pa_cons (pv 2) (pa_cons (pv 4) pa_nil)))))
      (pss_cons (ps_for PassesOwn.never (by rfl) (pi_tup (pv 3)) (pg_name (i := 6) sc__law_book.nd rfl (.inl rfl))
        (pss_one (ps_expr (pe_methO O_Book_call T.k_Book (hr.mono (by omega)) (pv 5) (pa_cons (pe_ix ix_tup (pe_ix ix_tup (pv 4) pe_int (fun _ _ => rfl)) pe_int (fun _ _ => rfl)) (pa_cons (pv 6) pa_nil))))))
      (pss_one (ps_ret (pv 5))))))), ?_⟩
    obtain ⟨a', k, g, wg, ea, ha, hk, hg, dg⟩ := dp_stand dp
    cases ea
    have lg := dpAll_len dg
    rw [List.length_map] at lg
    refine ⟨.ref a, rfl, a, _, rfl, ha, rfl, _, _, rfl, _, _, rfl, _, _, rfl, _, _, rfl, rfl, ?_⟩
    refine ⟨.int p, rfl, .int (n : Int), rfl, .ref g, rfl, fun b dx nb ndx ne => ?_⟩
    generalize hB : upd (upd H dx (.own b)) b _ = HB
    have sB : Same H HB := fun z o e => by
      have n1 : z ≠ b := fun y => by rw [y, nb] at e; cases e
      have n2 : z ≠ dx := fun y => by rw [y, ndx] at e; cases e
      rw [← hB, upd_ne n1, upd_ne n2]
      exact e
    have eB : HB b = some (.ins (adr mg "Book") dx []) := by rw [← hB]; exact upd_same
    refine ⟨b, dx, g, p, n, hs, rfl, eB, dp_same sB _ _ (.tup hg dg), fun H2 x2 B2 => ⟨rfl, ?_⟩⟩
    have xsame : ∀ {Ha Hb : Hp}, Same H Ha → Xc b Ha Hb → Same H Hb := fun s x z o e => x _ _ (s _ _ e) fun y => by rw [y, nb] at e; cases e
    have s2 : Same H H2 := xsame sB x2
    obtain ⟨wk, hk1, hk2⟩ := hk
    have lk := rows_len hk2
    have n8 := S.n8
    have lkn := PFR.len S.fld S.pk
    have I2 : BookI p n (hs.map Prod.fst) 8 ⟨.tuple [.int p, .int (n : Int), .tuple (hs.map handD)], [⟨p, n, [], hs⟩], [], [], false⟩ := ⟨rfl, (fun m hm => by
      rw [List.mem_singleton.mp hm]
      exact ⟨mom_start S h6, rfl, rfl, rfl⟩), (fun x r hx => nomatch hx), Nat.zero_le _, rfl⟩
    obtain ⟨h0, gh0⟩ : ∃ h0, hs[0]? = some h0 := ⟨_, List.getElem?_eq_getElem (show 0 < hs.length by have := S.few; omega)⟩
    have m0 := List.mem_of_getElem? gh0
    refine ⟨.ref k, rfl, k, rfl, ⟨_, Same.tup s2 hk1⟩, for_it (walk_tup (K := K) (a := k) (xs := wk)) (fun i σ H' => ∃ (q : BookS) (y6 : Option V), Same H H' ∧ BookAt K mg H' b q ∧ BookI p n (hs.map Prod.fst) (8 + i) q ∧ q.moms[q.moms.length - 1]? = some (momK p n (kn.take i) hs) ∧ σ = [some (.ref a), some (.int p), some (.int (n : Int)), some (.ref k), some (.ref g), some (.ref b), y6]) ⟨_, none, s2, B2, I2, ?_, rfl⟩ (fun i σ H' _ hW => by
        obtain ⟨q, y6, s', _⟩ := hW
        exact Same.tup s' hk1) (fun i v σ H3 H4 hi hW hY => ?_) (fun σ H3 hW => ?_)⟩
    · show some (⟨p, n, [], hs⟩ : Mom) = some (momK p n (kn.take 0) hs)
      unfold momK
      rw [List.take_zero]
      congr 2
      conv => lhs; rw [← List.map_id hs]
      exact List.map_congr_left fun h _ => by simp
    · obtain ⟨rfl, hx⟩ := hY
      obtain ⟨q, y6, s3, B3, I3, gm, rfl⟩ := hW
      obtain ⟨m', gm', M, e1, e2, e3⟩ := I3.last
      cases gm.symm.trans gm'
      obtain ⟨cR, row, rfl, gr, mr, hc⟩ := dpAll_row (dpAll_same s3 _ _ hk2) hx
      obtain ⟨dxb, fs, eb, nf⟩ := B3.nm
      have hg3 := Same.tup s3 hg
      have dg3 := dpAll_same s3 _ _ dg
      obtain ⟨v0, gv0⟩ : ∃ v0, wg[0]? = some v0 := ⟨_, List.getElem?_eq_getElem (by have := S.few; omega)⟩
      obtain ⟨c0, r0, x0, rfl, gx0, mx0, hc0, _⟩ := dpAll_hand dg3 gv0
      cases gh0.symm.trans gx0
      have okr : RowsOk p n [row] := rowsOk_one (S.pk.rows row mr)
      have mx : h0.1 ∈ (momK p n (kn.take i) hs).hands.map Prod.fst := by rw [e3]; exact List.mem_map_of_mem m0
      have has := has_one (h := (h0.1, h0.2 ++ kn.take i)) M okr (List.mem_map_of_mem m0) (InR.left (S.inn h0 m0 row mr))
      have few := I3.few
      refine ⟨.ref b, rfl, b, dxb, _, rfl, eb, nf _ (by decide +kernel), .ref g, rfl, g, _, 0, .ref c0, rfl, rfl, hg3, atI_nat (j := 0) gv0, c0, _, 0, .str h0.1, rfl, rfl, hc0, rfl, .ref cR, rfl, ?_⟩
      refine ⟨b, cR, q, h0.1, row, _, rfl, B3, I3.amid, by omega, gm, M.mono (by omega), hc, okr, mx, has, fun H5 x5 B5 => ?_⟩
      refine ⟨_, _, xsame s3 x5, B5, I3.push (callM_ok M okr) rfl rfl ((callM_names _ row).trans e3) (fun x r e => by cases e; exact okr), ?_, rfl⟩
      rw [push_last]
      congr 1
      unfold callM momK
      rw [List.take_add_one, gr]
      congr 1
      rw [List.map_map]
      exact List.map_congr_left fun h _ => by simp
    · obtain ⟨q3, y6, s3, B3, I3, gm, rfl⟩ := hW
      rw [List.take_of_length_le (by omega)] at gm
      exact ⟨.ref b, rfl, q H3 b q3 s3 nb B3 (I3.mono (by omega)) gm⟩
end
end OC
set_option Elab.async false
set_option linter.all false
set_option maxRecDepth 100000
set_option maxHeartbeats 4000000
namespace OC
open PySem PySem.Spec PyProof.Rows L2
section
variable {P : Program} {w : World} {K : PySem.W.Frag} {mg : Str → Option Value} {base : Heap}
theorem get2 {σ : L2.St} {i j : Nat} {u v : Option V} (h : i < σ.length) (ne : j ≠ i) : (((wipe σ [i, j]).set i u).set j v)[i]? = some u := by
  simp only [wipe, List.getElem?_set, List.length_set]
  simp [ne, h]
theorem wipe2 {σ : L2.St} {i j : Nat} {u v : Option V} : wipe (((wipe σ [i, j]).set i u).set j v) [i, j] = wipe σ [i, j] := by
  refine List.ext_getElem? fun k => ?_
  simp only [wipe, List.getElem?_set, List.length_set]
  by_cases hi : i = k <;> by_cases hj : j = k <;> simp [hi, hj]
theorem kn_after {p : Int} {n : Nat} {kn : List (List Int)} {hs : List (Str × List (List Int))} {c r : List Int} {y : Str} {B : Nat} (S : Stand5 p n kn hs) (M : MomOk B (momK p n kn hs)) (okc : RowsOk p n [c]) (okr : RowsOk p n [r]) (my : y ∈ hs.map Prod.fst) :
    plainR p n (heardM (callM (momK p n kn hs) c) [y]) = plainR p n (roomI p n kn hs y ++ [c]) := by
  have M' : MomOk (B + 1) (callM (momK p n kn hs) c) := callM_ok M okc
  have nme : (callM (momK p n kn hs) c).hands.map Prod.fst = hs.map Prod.fst := by
    rw [callM_names]
    unfold momK
    rw [List.map_map]
    rfl
  have e := room_known M' ⟨y, List.mem_singleton_self _, by rw [nme]; exact my⟩
  have e' : plainR p n (heardM (callM (momK p n kn hs) c) [y]) = roomR p n (callM (momK p n kn hs) c).openM (callM (momK p n kn hs) c).roomsM [y] := e
  rw [e', open_call M okc, rooms_call M okc, momK_open S, momK_rooms S]
  exact room_heard S okc [y]
theorem kn_first {p : Int} {n : Nat} {kn : List (List Int)} {hs : List (Str × List (List Int))} {y : Str} {B : Nat} (S : Stand5 p n kn hs) (M : MomOk B (momK p n kn hs)) (my : y ∈ hs.map Prod.fst) : plainR p n (heardM (momK p n kn hs) [y]) = roomI p n kn hs y := by
  have nme : (momK p n kn hs).hands.map Prod.fst = hs.map Prod.fst := by
    unfold momK
    rw [List.map_map]
    rfl
  have e := room_known M ⟨y, List.mem_singleton_self _, by rw [nme]; exact my⟩
  have e' : plainR p n (heardM (momK p n kn hs) [y]) = roomR p n (momK p n kn hs).openM (momK p n kn hs).roomsM [y] := e
  rw [e', momK_open S, momK_rooms S]
  rfl
theorem heard_few {B : Nat} {m : Mom} {y : Str} (M : MomOk B m) (my : y ∈ m.hands.map Prod.fst) : (heardM m [y]).length ≤ B := by
  obtain ⟨h, mh, rfl⟩ := List.mem_map.mp my
  rw [heard_one M mh]
  exact M.lh h mh
def sp_told8 (K : PySem.W.Frag) (mg : Str → Option Value) : Sp := fun vs H Q _ => ∃ (b l a e g : Addr) (x y z : Str) (r c : List Int) (p : Int) (n : Nat) (kn : List (List Int)) (hs : List (Str × List (List Int))) (q : BookS), vs = [.ref b, .ref l, .ref g] ∧ BookAt K mg H b q ∧ BookI p n (hs.map Prod.fst) 16 q ∧ q.moms[q.moms.length - 1]? = some (momK p n kn hs) ∧ H l = some (.lst [.ref a, .str x, .str y, .str z, .ref e]) ∧ Dp K H (.ref a) (standD p n kn hs) ∧ SqT K H e (r.map V.int) ∧ SqT K H g (c.map V.int) ∧ RowsOk p n [c] ∧ CaseOk p n kn hs x y z r ∧ asideB p n (roomI p n kn hs x) (roomI p n kn hs y) (roomI p n kn hs z) r c = true ∧
  ∀ H', Xc b H H' → Q (.bl true) H'
theorem ok__law_told_right (T : Top K mg) (W : StepsW w K mg) : Ok P w K mg base 13 "_law_told_right" ["_law_book_here", "_law_case", "_law_call"] (sp_told8 K mg) := by
  have O_Book_call := ok_Book_call (P := P) (w := w) (base := base) T W
  have O_Book_knows := ok_Book_knows (P := P) (w := w) (base := base) T
  have O_Book_why := ok_Book_why (P := P) (w := w) (base := base) T
  have O_Book_heard := ok_Book_heard (P := P) (w := w) (base := base) T
  have O_Book_learned := ok_Book_learned (P := P) (w := w) (base := base) T
  have O_Book___len__ := ok_Book___len__ (P := P) (w := w) (base := base) T
  have O_makes_hold := ok_makes_hold (P := P) (w := w) (base := base) T
  have O_parted_hold := ok_parted_hold (P := P) (w := w) (base := base) T
  refine T.d__law_told_right.ok sc__law_told_right (fun vs H Q E h => ?_) (fun f cdv A outer s H vs Q E hr h => ?_)
  · obtain ⟨b, l, a, e, g, x, y, z, r, c, p, n, kn, hs, q, rfl, _⟩ := h
    rfl
  · obtain ⟨b, l, a, e, g, x, y, z, r, c, p, n, kn, hs, q, rfl, B, I, gm, el, dp, he, hg, okc, C, hasi, k⟩ := h
    have S := C.S
    have okr := C.okr
    refine ⟨_, ((pss_cons (ps_asg (pv 1) (pg_unl (by rfl) (pgs_cons (pg_name (i := 3) sc__law_told_right.nd rfl (.inl rfl)) (pgs_cons (pg_name (i := 4) sc__law_told_right.nd rfl (.inl rfl)) (pgs_cons (pg_name (i := 5) sc__law_told_right.nd rfl (.inl rfl)) (pgs_cons (pg_name (i := 6) sc__law_told_right.nd rfl (.inl rfl)) (pgs_cons (pg_name (i := 7) sc__law_told_right.nd rfl (.inl rfl)) pgs_nil)))))))
      (pss_cons (ps_asg (pe_slice sl_tupB (pv 3) po_none (po_some pe_int)) (pg_tup (by rfl) (pgs_cons (pg_name (i := 8) sc__law_told_right.nd rfl (.inl rfl)) (pgs_cons (pg_name (i := 9) sc__law_told_right.nd rfl (.inl rfl)) pgs_nil))))
      (pss_cons (ps_set (i := 10) sc__law_told_right.nd rfl (.inl rfl) (pe_callB (call_lenM O_Book___len__ (hr.mono (by omega))) (by rfl) T.b_len (by decide +kernel) (pa_cons (pv 0) pa_nil)))
      (pss_cons (ps_expr (pe_methO O_Book_call T.k_Book (hr.mono (by omega)) (pv 0) (pa_cons (pv 4) (pa_cons (pv 2) pa_nil))))
      (pss_cons (ps_if (PW.pt (pw_or (pt_cmpR op_notBl (pe_methO O_Book_knows T.k_Book (hr.mono (by omega)) (pv 0) (pa_cons (pe_tup (pa_cons (pv 5) pa_nil)) (pa_cons (pv 7) pa_nil))) pe_bl (nomark _)) (pw_or1 (pt_cmpR op_notBl (pe_methO O_Book_knows T.k_Book (hr.mono (by omega)) (pv 0) (pa_cons (pe_tup (pa_cons (pv 6) pa_nil)) (pa_cons (pv 7) pa_nil))) pe_bl (nomark _)))))
        (pss_one (ps_ret pe_bl))
        pss_nil)
      (pss_cons (ps_asg (pe_methO O_Book_why T.k_Book (hr.mono (by omega)) (pv 0) (pa_cons (pe_tup (pa_cons (pv 5) pa_nil)) (pa_cons (pv 7) pa_nil))) (pg_tup (by rfl) (pgs_cons (pg_name (i := 11) sc__law_told_right.nd rfl (.inl rfl)) (pgs_cons (pg_name (i := 12) sc__law_told_right.nd rfl (.inl rfl)) pgs_nil))))
      (pss_cons (ps_if (PW.pt (pw_or (pt_cmpR op_ne (pv 11) pe_str (nomark _)) (pw_or1 (pt_not (pt_val (pe_callO O_makes_hold (hr.mono (by omega)) (by rfl) (pa_cons (pv 8) (pa_cons (pv 9) (pa_cons (pe_methO O_Book_heard T.k_Book (hr.mono (by omega)) (pv 0) (pa_cons (pe_tup (pa_cons (pv 5) pa_nil)) pa_nil)) (pa_cons (pv 7) (pa_cons (pv 12) pa_nil)))))))))))
        (pss_one (ps_ret pe_bl))
        pss_nil)
      (pss_cons (ps_asg (pe_methO O_Book_why T.k_Book (hr.mono (by omega)) (pv 0) (pa_cons (pe_tup (pa_cons (pv 6) pa_nil)) (pa_cons (pv 7) pa_nil))) (pg_tup (by rfl) (pgs_cons (pg_name (i := 11) sc__law_told_right.nd rfl (.inl rfl)) (pgs_cons (pg_name (i := 13) sc__law_told_right.nd rfl (.inl rfl)) pgs_nil))))
      (pss_cons (ps_if (PW.pt (pw_or (pt_cmpR op_ne (pv 11) pe_str (nomark _)) (pw_or1 (pt_not (pt_val (pe_callO O_parted_hold (hr.mono (by omega)) (by rfl) (pa_cons (pv 8) (pa_cons (pv 9) (pa_cons (pe_methO O_Book_heard T.k_Book (hr.mono (by omega)) (pv 0) (pa_cons (pe_tup (pa_cons (pv 6) pa_nil)) pa_nil)) (pa_cons (pv 7) (pa_cons (pv 13) pa_nil)))))))))))
        (pss_one (ps_ret pe_bl))
        pss_nil)
      (pss_one (ps_ret (pe_cmpR op_in_seq (pv 5) (pe_lc (own := [("_law_name", 14), ("_law_many", 15)]) (g := gTup K 2 (gCons (gName 14) (gCons (gName 15) gNil))) (by rfl) sc__law_told_right.nd (pi_tup (pe_methO O_Book_learned T.k_Book (hr.mono (by omega)) (pv 0) (pa_cons (pv 10) pa_nil))) (blkOk_by (own := [("_law_name", 14), ("_law_many", 15)]) (N := N__law_told_right) (sc := defScope s__law_told_right) (by decide +kernel)) (fun _ _ _ _ _ => (pg_tup (by rfl) (pgs_cons (pg_name (i := 14) sc__law_told_right.nd rfl (.inl rfl)) (pgs_cons (pg_name (i := 15) sc__law_told_right.nd rfl (.inl rfl)) pgs_nil)))) (fun _ _ _ _ _ => pts_nil) (fun _ _ _ _ _ => (pv 14))) (by rfl)))))))))))))), ?_⟩
    obtain ⟨m', gm', M, e1, e2, e3⟩ := I.last
    cases gm.symm.trans gm'
    obtain ⟨a0, k0, g0, wg0, ea, ha, hk, hg0, dg0⟩ := dp_stand dp
    cases ea
    have F := S.fld
    have n1 := S.n1
    have n8 := S.n8
    have p1 := S.p1
    have F2 := F.1
    have lm := I.len
    have few := I.few
    refine ⟨.ref l, rfl, l, _, rfl, .inl (.inl el), rfl, _, _, rfl, _, _, rfl, _, _, rfl, _, _, rfl, _, _, rfl, rfl, ?_⟩
    refine ⟨.ref a, rfl, _, rfl, a, _, rfl, ha, fun l1 H1 s1 h1 => ?_⟩
    rw [cut_upto (by decide)] at h1
    refine ⟨l1, [.int p, .int n], rfl, h1, rfl, _, _, rfl, _, _, rfl, rfl, ?_⟩
    obtain ⟨dxb, fs, eb, nf⟩ := B.nm
    have B1 := B.same s1
    refine ⟨.ref b, rfl, b, _, _, rfl, s1 _ _ eb, b, q, rfl, B1, q.deeds.length, rfl, by omega, ?_⟩
    have mems := C.mem
    have nme : (momK p n kn hs).hands.map Prod.fst = hs.map Prod.fst := e3
    have mx : x ∈ hs.map Prod.fst := mems x (by simp)
    have my : y ∈ hs.map Prod.fst := mems y (by simp)
    have mz : z ∈ hs.map Prod.fst := mems z (by simp)
    unfold asideB at hasi
    rw [Bool.and_eq_true, Bool.and_eq_true, Bool.not_eq_true'] at hasi
    obtain ⟨⟨a1, a2⟩, a3⟩ := hasi
    have hasx : hasR p n (plainR p n (heardM (momK p n kn hs) [x])) c = true := by
      have e := room_known M ⟨x, List.mem_singleton_self _, by rw [nme]; exact mx⟩
      have e' : plainR p n (heardM (momK p n kn hs) [x]) = roomR p n (momK p n kn hs).openM (momK p n kn hs).roomsM [x] := e
      rw [e', momK_open S, momK_rooms S]
      exact a1
    refine ⟨.ref b, rfl, b, _, _, rfl, s1 _ _ eb, nf _ (by decide +kernel), .str x, rfl, .ref g, rfl, ?_⟩
    refine ⟨b, g, q, x, c, _, rfl, B1, I.amid, by omega, gm, M.mono (by omega), Same.tup s1 hg, okc, by rw [nme]; exact mx, hasx, fun H2 x2 B2 => ?_⟩
    have mv2 := B1.xc x2
    have I2 : BookI p n (hs.map Prod.fst) 17 (q.push (callM (momK p n kn hs) c) (.call x c)) := I.push (callM_ok M okc) rfl rfl ((callM_names _ c).trans nme) (fun x r e => by cases e; exact okc)
    have gm2 := push_last q (callM (momK p n kn hs) c) (.call x c)
    have g0 : (q.push (callM (momK p n kn hs) c) (.call x c)).moms[q.deeds.length]? = some (momK p n kn hs) := by
      show (q.moms ++ [_])[q.deeds.length]? = _
      rw [List.getElem?_append_left (by omega), ← gm]
      congr 1
      omega
    have g1 : (q.push (callM (momK p n kn hs) c) (.call x c)).moms[q.deeds.length + 1]? = some (callM (momK p n kn hs) c) := by
      show (q.moms ++ [_])[q.deeds.length + 1]? = _
      rw [List.getElem?_append_right (by omega), show q.deeds.length + 1 - q.moms.length = 0 by omega]
      rfl
    have M1 : MomOk 17 (callM (momK p n kn hs) c) := callM_ok M okc
    have ld2 : q.deeds.length < (q.push (callM (momK p n kn hs) c) (.call x c)).deeds.length := by
      show q.deeds.length < (q.deeds ++ [_]).length
      rw [List.length_append]
      exact Nat.lt_succ_self _
    have knY := kn_after (y := y) S M okc okr my
    have knZ := kn_after (y := z) S M okc okr mz
    have nm1 : (callM (momK p n kn hs) c).hands.map Prod.fst = hs.map Prod.fst := (callM_names _ c).trans nme
    have pn : (callM (momK p n kn hs) c).p = p ∧ (callM (momK p n kn hs) c).n = n := ⟨rfl, rfl⟩
    generalize hm1 : callM (momK p n kn hs) c = m1 at B2 I2 gm2 g0 g1 M1 ld2 knY knZ nm1 pn
    generalize hq2 : q.push m1 (.call x c) = q2 at B2 I2 gm2 g0 g1 ld2
    obtain ⟨pe, ne⟩ := pn
    have lm2 := I2.len
    have at2 : AtIdx q2 .non (q2.moms.length - 1) := ⟨by omega, .inl ⟨rfl, by omega⟩⟩
    have M1k : MomOk 1000 m1 := M1.mono (by decide)
    have he2 := mv2.tk _ _ _ (Same.tup s1 he)
    have okr1 : RowsOk m1.p m1.n [r] := by rw [pe, ne]; exact okr
    have my1 : y ∈ m1.hands.map Prod.fst := by rw [nm1]; exact my
    have mz1 : z ∈ m1.hands.map Prod.fst := by rw [nm1]; exact mz
    have okhY := heard_ok M1 [y]
    have okhZ := heard_ok M1 [z]
    have lhY := heard_few M1 my1
    have lhZ := heard_few M1 mz1
    have hY : hasR m1.p m1.n (plainR m1.p m1.n (heardM m1 [y])) r = true := by rw [pe, ne, knY]; exact a2
    have hZ : hasR m1.p m1.n (plainR m1.p m1.n (heardM m1 [z])) r = false := by rw [pe, ne, knZ]; exact a3
    have iY : hasR m1.p m1.n (heardM m1 [y]) r = true := (hasR_in M1.fld okhY okr1).mpr ((hasR_plain M1.fld okhY okr1).mp hY)
    have iZ : hasR m1.p m1.n (heardM m1 [z]) r = false := by
      cases h : hasR m1.p m1.n (heardM m1 [z]) r with
      | false => rfl
      | true =>
        rw [(hasR_plain M1.fld okhZ okr1).mpr ((hasR_in M1.fld okhZ okr1).mp h)] at hZ
        cases hZ
    obtain ⟨dx2, fs2, eb2, nf2⟩ := B2.nm
    refine ⟨.ref b, rfl, b, _, _, rfl, eb2, nf2 _ (by decide +kernel), .str y, rfl, sz1000 (by decide : (1 : Nat) ≤ 1000), fun z3 nz3 => ?_⟩
    generalize h3 : upd H2 z3 _ = H3
    obtain ⟨s3, e3'⟩ := new_of h3 nz3
    refine ⟨.ref e, rfl, b, z3, e, q2, .non, _, [y], r, m1, rfl, B2.same s3, at2, gm2, M1k, .inl (.inl e3'), List.pairwise_singleton _ _, (by show 1 ≤ 100; decide), (fun u hu => by rw [List.mem_singleton.mp hu]; exact my1), Same.tup s3 he2, okr1, fun H4 s4 => ⟨_, true, rfl, rfl, _, rfl, ?_⟩⟩
    rw [hY]
    refine iteF ?_
    have s24 := s3.trans s4
    refine ⟨.ref b, rfl, b, _, _, rfl, s24 _ _ eb2, nf2 _ (by decide +kernel), .str z, rfl, sz1000 (by decide : (1 : Nat) ≤ 1000), fun z5 nz5 => ?_⟩
    generalize h5 : upd H4 z5 _ = H5
    obtain ⟨s5, e5⟩ := new_of h5 nz5
    have s25 := s24.trans s5
    refine ⟨.ref e, rfl, b, z5, e, q2, .non, _, [z], r, m1, rfl, B2.same s25, at2, gm2, M1k, .inl (.inl e5), List.pairwise_singleton _ _, (by show 1 ≤ 100; decide), (fun u hu => by rw [List.mem_singleton.mp hu]; exact mz1), Same.tup s25 he2, okr1, fun H6 s6 => ⟨_, false, rfl, rfl, _, rfl, ?_⟩⟩
    rw [hZ]
    refine iteF ?_
    have s26 := s25.trans s6
    refine ⟨.ref b, rfl, b, _, _, rfl, s26 _ _ eb2, nf2 _ (by decide +kernel), .str y, rfl, sz1000 (by decide : (1 : Nat) ≤ 1000), fun z7 nz7 => ?_⟩
    generalize h7 : upd H6 z7 _ = H7
    obtain ⟨s7, e7⟩ := new_of h7 nz7
    have s27 := s26.trans s7
    refine ⟨.ref e, rfl, b, z7, e, q2, .non, _, [y], r, m1, rfl, B2.same s27, at2, gm2, M1k, .inl (.inl e7), List.pairwise_singleton _ _, (by show 1 ≤ 100; decide), (fun u hu => by rw [List.mem_singleton.mp hu]; exact my1), Same.tup s27 he2, okr1, by omega, fun h => absurd (iY.symm.trans h) (by decide), fun _ H8 t8 l8 fs8 s8 ht8 el8 lf fb md => ?_⟩
    have s28 := s27.trans s8
    refine ⟨t8, _, rfl, ht8, rfl, _, _, rfl, _, _, rfl, rfl, ?_⟩
    refine ⟨.str "makes", rfl, rfl, _, rfl, ?_⟩
    rw [decide_eq_true (rfl : V.str "makes" = V.str "makes")]
    refine iteF ⟨.int p, rfl, .int (n : Int), rfl, .ref b, rfl, b, _, _, rfl, s28 _ _ eb2, nf2 _ (by decide +kernel), .str y, rfl, sz1000 (by decide : (1 : Nat) ≤ 1000), fun z9 nz9 => ?_⟩
    generalize h9 : upd H8 z9 _ = H9
    obtain ⟨s9, e9⟩ := new_of h9 nz9
    have s29 := s28.trans s9
    refine ⟨b, z9, q2, .non, _, [y], m1, rfl, B2.same s29, at2, gm2, M1k, .inl (.inl e9), List.pairwise_singleton _ _, (by show 1 ≤ 100; decide), (fun u hu => by rw [List.mem_singleton.mp hu]; exact my1), fun H10 l10 s10 r10 => ?_⟩
    have s210 := s29.trans s10
    rw [pe, ne] at okhY okhZ md
    rw [pe] at fb
    refine ⟨.ref e, rfl, .ref l8, rfl, l10, e, heardM m1 [y], r, p, n, .ref l8, rowD fs8, rfl, r10, Same.tup s210 he2, okhY, okr, by omega, row_rep (.inl (.inl ((s9.trans s10) _ _ el8))), (by show (fs8.map PyData.int).length ≤ 1000; rw [List.length_map]; omega), F2, n1, by omega, p1, fun H11 s11 => ⟨_, rfl, ?_⟩⟩
    have mk : makesD p n (heardM m1 [y]) r (rowD fs8) = true := by
      unfold makesD
      rw [isRow_row ⟨lf, fb⟩, Bool.true_and, ints_row]
      exact decide_eq_true md
    rw [mk]
    refine iteF ?_
    have s211 := s210.trans s11
    refine ⟨.ref b, rfl, b, _, _, rfl, s211 _ _ eb2, nf2 _ (by decide +kernel), .str z, rfl, sz1000 (by decide : (1 : Nat) ≤ 1000), fun z12 nz12 => ?_⟩
    generalize h12 : upd H11 z12 _ = H12
    obtain ⟨s12, e12⟩ := new_of h12 nz12
    have s212 := s211.trans s12
    refine ⟨.ref e, rfl, b, z12, e, q2, .non, _, [z], r, m1, rfl, B2.same s212, at2, gm2, M1k, .inl (.inl e12), List.pairwise_singleton _ _, (by show 1 ≤ 100; decide), (fun u hu => by rw [List.mem_singleton.mp hu]; exact mz1), Same.tup s212 he2, okr1, by omega, fun _ H13 t13 l13 wd s13 ht13 r13 okw w0 w1 => ?_, fun h => absurd (iZ.symm.trans h) (by decide)⟩
    have s213 := s212.trans s13
    refine ⟨t13, _, rfl, ht13, rfl, _, _, rfl, _, _, rfl, rfl, ?_⟩
    refine ⟨.str "parted", rfl, rfl, _, rfl, ?_⟩
    rw [decide_eq_true (rfl : V.str "parted" = V.str "parted")]
    refine iteF ⟨.int p, rfl, .int (n : Int), rfl, .ref b, rfl, b, _, _, rfl, s213 _ _ eb2, nf2 _ (by decide +kernel), .str z, rfl, sz1000 (by decide : (1 : Nat) ≤ 1000), fun z14 nz14 => ?_⟩
    generalize h14 : upd H13 z14 _ = H14
    obtain ⟨s14, e14⟩ := new_of h14 nz14
    have s214 := s213.trans s14
    refine ⟨b, z14, q2, .non, _, [z], m1, rfl, B2.same s214, at2, gm2, M1k, .inl (.inl e14), List.pairwise_singleton _ _, (by show 1 ≤ 100; decide), (fun u hu => by rw [List.mem_singleton.mp hu]; exact mz1), fun H15 l15 s15 r15 => ?_⟩
    have s215 := s214.trans s15
    rw [ne] at r13
    rw [pe, ne] at okw
    rw [pe] at w0 w1
    have pr13 : Rep K H15 NB (.ref l13) (.tuple ([List.replicate n 0, wd].map rowD)) := by
      obtain ⟨wr, hr1, hr2⟩ := r13.same (s14.trans s15)
      exact .tup hr1 (rep_rows hr2)
    refine ⟨.ref e, rfl, .ref l13, rfl, l15, e, heardM m1 [z], r, p, n, .ref l13, .tuple ([List.replicate n 0, wd].map rowD), rfl, r15, Same.tup s215 he2, okhZ, okr, by omega, pr13, ?_, F2, by omega, p1, fun H16 s16 => ⟨_, rfl, ?_⟩⟩
    · refine ⟨(by show 2 ≤ 100; decide), fun d hd => ?_⟩
      obtain ⟨rr, mr, rfl⟩ := List.mem_map.mp hd
      show (rr.map PyData.int).length ≤ 1000
      rw [List.length_map]
      rcases List.mem_cons.mp mr with rfl | mr
      · rw [List.length_replicate]
        omega
      · rw [List.mem_singleton.mp mr, (okw wd List.mem_cons_self).1]
        omega
    have mk2 : partedD p n (heardM m1 [z]) r (.tuple ([List.replicate n 0, wd].map rowD)) = true := by
      have z0 : isRowD p n (rowD (List.replicate n 0)) = true := isRow_row ⟨List.length_replicate, fun x hx => by rw [(List.mem_replicate.mp hx).2]; omega⟩
      have z1 : isRowD p n (rowD wd) = true := isRow_row (okw wd List.mem_cons_self)
      show (isRowD p n (rowD (List.replicate n 0)) && isRowD p n (rowD wd) && !decide (worthR p r (intsOf (rowD (List.replicate n 0))) = worthR p r (intsOf (rowD wd))) && (heardM m1 [z]).all fun q => decide (worthR p q (intsOf (rowD (List.replicate n 0))) = worthR p q (intsOf (rowD wd)))) = true
      rw [z0, z1, ints_row, ints_row, worth_nought0, decide_eq_false (fun h => w1 h.symm), Bool.and_true, Bool.not_false, Bool.and_true, Bool.true_and, List.all_eq_true]
      exact fun q hq => decide_eq_true (by rw [worth_nought0, w0 q hq])
    rw [mk2]
    refine iteF ?_
    have s216 := s215.trans s16
    generalize hσ : List.set _ _ _ = σ'
    have v5 : σ'[5]? = some (some (.str y)) := by rw [← hσ]; rfl
    have v0 : σ'[0]? = some (some (.ref b)) := by rw [← hσ]; rfl
    have v10 : σ'[10]? = some (some (.int (q.deeds.length : Nat))) := by rw [← hσ]; rfl
    have vl : σ'.length = 16 := by rw [← hσ]; rfl
    clear hσ
    refine ⟨.str y, v5, .ref b, v0, b, _, _, rfl, s216 _ _ eb2, nf2 _ (by decide +kernel), .int _, v10, b, q2, q.deeds.length, momK p n kn hs, m1, rfl, B2.same s216, ld2, g0, g1, M.mono (by decide), M1k, fun H17 l17 s17 d17 => ?_⟩
    have s217 := s216.trans s17
    obtain ⟨wl, hl1, hl2⟩ : ∃ wl, SqT K H17 l17 wl ∧ DpAll K H17 wl ((gainL (momK p n kn hs) m1).map pairD) := by
      cases d17 with
      | tup ha hd => exact ⟨_, ha, hd⟩
    have lwl := dpAll_len hl2
    rw [List.length_map] at lwl
    have lgs : (gainL (momK p n kn hs) m1).length ≤ 100 := by
      unfold gainL
      refine Nat.le_trans (List.length_filter_le _ _) ?_
      rw [List.length_map, nm1, List.length_map]
      have := S.many
      omega
    refine ⟨l17, rfl, ⟨_, hl1⟩, fun D nD => lc_it (walk_tup (K := K) (a := l17) (xs := wl)) (fun i H' => Same H17 H' ∧ H' D = some (.lst ((((gainL (momK p n kn hs) m1).take i).map Prod.fst).map V.str))) ⟨same_upd nD, upd_same⟩ (fun i H' _ hP => Same.tup hP.1 hl1) (fun i v Ha Hb hi hP hY => ?_) (fun H18 hP => ?_)⟩
    · obtain ⟨rfl, hx⟩ := hY
      obtain ⟨sa, eD⟩ := hP
      obtain ⟨dd, gdd, _, hdd⟩ := dpAll_get (dpAll_same sa _ _ hl2) hx
      rw [List.getElem?_map] at gdd
      obtain ⟨⟨u, gg⟩, gu, rfl⟩ := Option.map_eq_some_iff.mp gdd
      obtain ⟨pa, rfl, hpa⟩ : ∃ pa, v = .ref pa ∧ SqT K Hb pa [.str u, .int gg] := by
        unfold pairD at hdd
        cases hdd with
        | tup ha hd =>
          cases hd with
          | cons d1 t =>
            cases d1
            cases t with
            | cons d2 t2 =>
              cases d2
              cases t2
              exact ⟨_, rfl, ha⟩
      refine ⟨pa, _, rfl, hpa, rfl, _, _, rfl, _, _, rfl, rfl, wipe2, .str u, get2 (show 14 < σ'.length by omega) (by decide), _, eD, small1000 (by rw [List.length_map, List.length_map, List.length_take]; omega), same_mut sa nD, ?_⟩
      rw [upd_same, List.take_add_one, gu, List.map_append, List.map_append]
      rfl
    · obtain ⟨sa, eD⟩ := hP
      rw [List.take_of_length_le (by omega)] at eD
      refine ⟨D, _, rfl, .inl (.inl (.inl eD)), rfl, flat_strs _, ?_⟩
      rw [show (if false = true then !inV (V.str y) (((gainL (momK p n kn hs) m1).map Prod.fst).map V.str) else inV (V.str y) (((gainL (momK p n kn hs) m1).map Prod.fst).map V.str)) = decide (y ∈ (gainL (momK p n kn hs) m1).map Prod.fst) from in_strs y _]
      have gy : y ∈ (gainL (momK p n kn hs) m1).map Prod.fst := by
        have h0 := kn_first (y := y) S M my
        have lt : (plainR p n (heardM (momK p n kn hs) [y])).length < (plainR m1.p m1.n (heardM m1 [y])).length := by
          rw [h0, pe, ne, knY]
          have pf := room_pf S [y]
          have pl : plainR p n (roomI p n kn hs y) = roomI p n kn hs y := PFR.ext F (PFR.of_plain F pf.rows) pf (fun r hr => (InR.plain F pf.rows).mp (InR.mem hr)) fun r hr => (InR.plain F pf.rows).mpr (InR.mem hr)
          have o := plain_one_more F pf.rows okc
          have o' : (plainR p n (roomI p n kn hs y ++ [c])).length = (plainR p n (roomI p n kn hs y)).length + (if hasR p n (roomI p n kn hs y) c = true then 0 else 1) := o
          rw [pl] at o'
          cases hc : hasR p n (roomI p n kn hs y) c with
          | false =>
            rw [hc, if_neg (by decide)] at o'
            omega
          | true =>
            refine absurd ?_ C.nL
            have ic : InR p (roomI p n kn hs y) c := (has_pf F pf okc).mp hc
            refine InR.mono (fun z hz => ?_) ((has_plain F (rowsOk_app pf.rows okc) okr).mp a2)
            rcases List.mem_append.mp hz with hz | hz
            · exact InR.mem hz
            · rw [List.mem_singleton.mp hz]
              exact ic
        refine List.mem_map.mpr ⟨(y, ((plainR m1.p m1.n (heardM m1 [y])).length : Int) - ((plainR p n (heardM (momK p n kn hs) [y])).length : Int)), List.mem_filter.mpr ⟨List.mem_map.mpr ⟨y, my1, rfl⟩, decide_eq_true ?_⟩, rfl⟩
        show _ > _
        dsimp only
        omega
      rw [decide_eq_true gy]
      exact k _ (((Xc.of s1).trans x2).trans (Xc.of (s217.trans sa)))
end
end OC
set_option Elab.async false
set_option linter.all false
set_option maxRecDepth 100000
set_option maxHeartbeats 4000000
namespace OC
open PySem PySem.Spec PyProof.Rows L2
section
variable {P : Program} {w : World} {K : PySem.W.Frag} {mg : Str → Option Value} {base : Heap}
theorem shaped_stand {p : Int} {n : Nat} {kn : List (List Int)} {hs : List (Str × List (List Int))} (S : Stand5 p n kn hs) : SeqAt.shaped (standD p n kn hs) = true := by
  have hn : ∀ hs : List (Str × List (List Int)), (∀ x ∈ hs.map Prod.fst, NameOk x) → PyData.canLayAll0 (hs.map handD) = true ∧ PyData.depthAll (hs.map handD) ≤ 4 := fun hs => by
    induction hs with
    | nil => exact fun _ => ⟨rfl, by simp [PyData.depthAll]⟩
    | cons h hs ih =>
      intro nm
      obtain ⟨i1, i2⟩ := ih fun y hy => nm y (List.mem_cons_of_mem _ hy)
      have d := depth_rows h.2
      have nh := name_strOk (nm h.1 List.mem_cons_self)
      refine ⟨?_, ?_⟩
      · simp only [List.map_cons, PyData.canLayAll0, handD, PyData.canLay0, lay_rows, nh, i1, Bool.and_true, Bool.true_and]
      · simp only [List.map_cons, PyData.depthAll, handD, PyData.depth]
        omega
  obtain ⟨c1, c2⟩ := hn hs S.nm
  have d := depth_rows kn
  unfold SeqAt.shaped standD
  simp only [PyData.canLay0, PyData.canLayAll0, lay_rows, c1, PyData.depth, PyData.depthAll, Bool.and_true, Bool.true_and]
  exact decide_eq_true (by omega)
theorem eqv_stand {p : Int} {n : Nat} {kn : List (List Int)} {hs : List (Str × List (List Int))} (S : Stand5 p n kn hs) : PyData.eqv (standD p n kn hs) (standD p n kn hs) = true := SeqAt.eqv_refl _ (SeqAt.canLay_of_shaped (shaped_stand S))
theorem StandAt.xc {K : PySem.W.Frag} {mg : Str → Option Value} {H H' : Hp} {a b : Addr} {p : Int} {n : Nat} {kn : List (List Int)} {hs : List (Str × List (List Int))} {q : BookS} (B : BookAt K mg H b q) (x : Xc b H H') (h : StandAt K H a p n kn hs) : StandAt K H' a p n kn hs := by
  obtain ⟨dx, fs, e⟩ := B.ins
  have m := B.xc x
  obtain ⟨k, g, ws, h1, h2, ⟨o, i, h3⟩, h4⟩ := h
  exact ⟨k, g, ws, m.tk _ _ _ h1, h2.tk m.tk, ⟨o, i, x _ _ h3 (fun z => by rw [z, e] at h3; cases h3)⟩, dpAll_tk m.tk _ _ (noL_hands hs) h4⟩
def sp_none8 (K : PySem.W.Frag) (mg : Str → Option Value) : Sp := fun vs H Q _ => ∃ (d ck b l a e : Addr) (t : Int) (x y z : Str) (r : List Int) (p : Int) (n : Nat) (kn : List (List Int)) (hs : List (Str × List (List Int))) (q : BookS), vs = [.ref d, .ref b, .ref l] ∧ Deck H d ck t ∧ t ≤ 700000 ∧ BookAt K mg H b q ∧ BookI p n (hs.map Prod.fst) 16 q ∧ q.moms[q.moms.length - 1]? = some (momK p n kn hs) ∧ H l = some (.lst [.ref a, .str x, .str y, .str z, .ref e]) ∧ StandAt K H a p n kn hs ∧ SqT K H e (r.map V.int) ∧ CaseOk p n kn hs x y z r ∧ barredB p n (roomI p n kn hs x) (roomI p n kn hs y) (roomI p n kn hs z) r = true ∧
  ∀ H' t', Deck H' d ck t' → t' ≤ t + 400 → Q (.bl true) H'
theorem ok__law_none_right (T : Top K mg) (W : StepsW w K mg) : Ok P w K mg base 13 "_law_none_right" ["_law_deck_here", "_law_book_here", "_law_case"] (sp_none8 K mg) := by
  have O_Book_call := ok_Book_call (P := P) (w := w) (base := base) T W
  have O_Book_knows := ok_Book_knows (P := P) (w := w) (base := base) T
  have O_Book_back := ok_Book_back (P := P) (w := w) (base := base) T
  have O_Book_stand := ok_Book_stand (P := P) (w := w) (base := base) T
  have O__law_known := ok__law_known (P := P) (w := w) (base := base) T
  refine T.d__law_none_right.ok sc__law_none_right (fun vs H Q E h => ?_) (fun f cdv A outer s H vs Q E hr h => ?_)
  · obtain ⟨d, ck, b, l, a, e, t, x, y, z, r, p, n, kn, hs, q, rfl, _⟩ := h
    rfl
  · obtain ⟨d, ck, b, l, a, e, t, x, y, z, r, p, n, kn, hs, q, rfl, D, ht, B, I, gm, el, sa, he, C, bar, k⟩ := h
    have S := C.S
    have okr := C.okr
    have F := S.fld
    have n1 := S.n1
    have n8 := S.n8
    have p1 := S.p1
    refine ⟨_, ((pss_cons (ps_asg (pv 2) (pg_unl (by rfl) (pgs_cons (pg_name (i := 3) sc__law_none_right.nd rfl (.inl rfl)) (pgs_cons (pg_name (i := 4) sc__law_none_right.nd rfl (.inl rfl)) (pgs_cons (pg_name (i := 5) sc__law_none_right.nd rfl (.inl rfl)) (pgs_cons (pg_name (i := 6) sc__law_none_right.nd rfl (.inl rfl)) (pgs_cons (pg_name (i := 7) sc__law_none_right.nd rfl (.inl rfl)) pgs_nil)))))))
      (pss_cons (ps_for PassesOwn.never (by rfl) (pi_range1 (by rfl) T.b_range (pa_cons pe_int pa_nil)) (pg_name (i := 8) sc__law_none_right.nd rfl (.inl rfl))
        (pss_cons (ps_expr (pe_methO O_Book_call T.k_Book (hr.mono (by omega)) (pv 1) (pa_cons (pv 4) (pa_cons (pe_callO O__law_known (hr.mono (by omega)) (by rfl) (pa_cons (pv 0) (pa_cons (pv 3) (pa_cons (pv 4) pa_nil)))) pa_nil))))
        (pss_cons (ps_if (PW.pt (pw_and (pt_val (pe_methO O_Book_knows T.k_Book (hr.mono (by omega)) (pv 1) (pa_cons (pe_tup (pa_cons (pv 5) pa_nil)) (pa_cons (pv 7) pa_nil)))) (pw_and1 (pt_not (pt_val (pe_methO O_Book_knows T.k_Book (hr.mono (by omega)) (pv 1) (pa_cons (pe_tup (pa_cons (pv 6) pa_nil)) (pa_cons (pv 7) pa_nil))))))))
          (pss_one (ps_ret pe_bl))
          pss_nil)
        (pss_one (ps_expr (pe_methO0 O_Book_back T.k_Book (hr.mono (by omega)) (pv 1)))))))
      (pss_one (ps_ret (pe_cmpR (op_eqD hr.units) (pe_methO0 O_Book_stand T.k_Book (hr.mono (by omega)) (pv 1)) (pv 3) (nomark _))))))), ?_⟩
    obtain ⟨m', gm', M, e1, e2, e3⟩ := I.last
    cases gm.symm.trans gm'
    have lm := I.len
    have few := I.few
    have mems := C.mem
    have nme : (momK p n kn hs).hands.map Prod.fst = hs.map Prod.fst := e3
    have mx : x ∈ hs.map Prod.fst := mems x (by simp)
    have my : y ∈ hs.map Prod.fst := mems y (by simp)
    have mz : z ∈ hs.map Prod.fst := mems z (by simp)
    refine ⟨.ref l, rfl, l, _, rfl, .inl (.inl el), rfl, _, _, rfl, _, _, rfl, _, _, rfl, _, _, rfl, _, _, rfl, rfl, ?_⟩
    refine ⟨12, rfl, by decide, by decide, for_range (lo := 0) (n := 12) (fun i σ H' => ∃ (t' : Int) (y8 : Option V), Deck H' d ck t' ∧ t' ≤ t + 20 * i ∧ BookAt K mg H' b q ∧ StandAt K H' a p n kn hs ∧ SqT K H' e (r.map V.int) ∧ σ = [some (.ref d), some (.ref b), some (.ref l), some (.ref a), some (.str x), some (.str y), some (.str z), some (.ref e), y8]) ⟨t, none, D, by omega, B, sa, he, rfl⟩ (fun i σ H1 hi hW => ?_) (fun σ H1 hW => ?_)⟩
    · obtain ⟨t1, y8, D1, ht1, B1, sa1, he1, rfl⟩ := hW
      obtain ⟨dxb, fs, eb, nf⟩ := B1.nm
      refine ⟨.ref b, rfl, b, _, _, rfl, eb, nf _ (by decide +kernel), .str x, rfl, .ref d, rfl, .ref a, rfl, .str x, rfl, d, ck, a, t1, p, x, n, kn, hs, rfl, D1, by omega, sa1, S.toR, fun H2 lc c t2 k2 D2 ht2 ec okc inr => ?_⟩
      have B2 := B1.kept D1 k2
      have sa2 := sa1.kept D1 k2
      have he2 := Kept.tup D1 k2 he1
      have hasx : hasR p n (plainR p n (heardM (momK p n kn hs) [x])) c = true := by
        rw [kn_first S M mx]
        exact (has_pf F (room_pf S [x]) okc).mpr inr
      have a1 : hasR p n (roomI p n kn hs x) c = true := by
        rw [kn_first S M mx] at hasx
        exact hasx
      refine ⟨b, lc, q, x, c, _, rfl, B2, I.amid, by omega, gm, M.mono (by omega), .inl (.inl ec), okc, by rw [nme]; exact mx, hasx, fun H3 x3 B3 => ?_⟩
      have D3 := D2.xc B2 x3
      have sa3 := sa2.xc B2 x3
      have he3 := (B2.xc x3).tk _ _ _ he2
      have M1 : MomOk 17 (callM (momK p n kn hs) c) := callM_ok M okc
      have knY := kn_after (y := y) S M okc okr my
      have knZ := kn_after (y := z) S M okc okr mz
      have nm1 : (callM (momK p n kn hs) c).hands.map Prod.fst = hs.map Prod.fst := (callM_names _ c).trans nme
      have gm2 := push_last q (callM (momK p n kn hs) c) (.call x c)
      have bk := BookAt.back q (callM (momK p n kn hs) c) (.call x c)
      have am2 : (q.push (callM (momK p n kn hs) c) (.call x c)).amid = false := I.amid
      have lm2 : (q.push (callM (momK p n kn hs) c) (.call x c)).moms.length = (q.push (callM (momK p n kn hs) c) (.call x c)).deeds.length + 1 := B3.len
      have ld2 : 1 ≤ (q.push (callM (momK p n kn hs) c) (.call x c)).deeds.length := by
        show 1 ≤ (q.deeds ++ [_]).length
        rw [List.length_append]
        exact Nat.succ_le_succ (Nat.zero_le _)
      have pn : (callM (momK p n kn hs) c).p = p ∧ (callM (momK p n kn hs) c).n = n := ⟨rfl, rfl⟩
      generalize callM (momK p n kn hs) c = m1 at B3 M1 knY knZ nm1 gm2 bk am2 lm2 ld2 pn
      generalize q.push m1 (.call x c) = q2 at B3 gm2 bk am2 lm2 ld2
      obtain ⟨pe, ne⟩ := pn
      have at2 : AtIdx q2 .non (q2.moms.length - 1) := ⟨by omega, .inl ⟨rfl, by omega⟩⟩
      have M1k : MomOk 1000 m1 := M1.mono (by decide)
      have okr1 : RowsOk m1.p m1.n [r] := by rw [pe, ne]; exact okr
      have my1 : y ∈ m1.hands.map Prod.fst := by rw [nm1]; exact my
      have mz1 : z ∈ m1.hands.map Prod.fst := by rw [nm1]; exact mz
      have asd : (hasR p n (plainR p n (roomI p n kn hs y ++ [c])) r && !hasR p n (plainR p n (roomI p n kn hs z ++ [c])) r) = false := by
        have h := barred_none F (room_pf S [x]) (room_pf S [y]) (room_pf S [z]) okr C.nL C.nO bar okc
        unfold asideB at h
        have h' : (hasR p n (roomI p n kn hs x) c && hasR p n (plainR p n (roomI p n kn hs y ++ [c])) r && !hasR p n (plainR p n (roomI p n kn hs z ++ [c])) r) = false := h
        rw [a1, Bool.true_and] at h'
        exact h'
      have hY : hasR m1.p m1.n (plainR m1.p m1.n (heardM m1 [y])) r = hasR p n (plainR p n (roomI p n kn hs y ++ [c])) r := by rw [pe, ne, knY]
      have hZ : hasR m1.p m1.n (plainR m1.p m1.n (heardM m1 [z])) r = hasR p n (plainR p n (roomI p n kn hs z ++ [c])) r := by rw [pe, ne, knZ]
      rw [← hY, ← hZ] at asd
      obtain ⟨dx2, fs2, eb2, nf2⟩ := B3.nm
      refine ⟨.ref b, rfl, b, _, _, rfl, eb2, nf2 _ (by decide +kernel), .str y, rfl, sz1000 (by decide : (1 : Nat) ≤ 1000), fun z4 nz4 => ?_⟩
      generalize h4 : upd H3 z4 _ = H4
      obtain ⟨s4, e4⟩ := new_of h4 nz4
      have fin : ∀ {H5 H6 : Hp}, Same H3 H5 → Xc b H5 H6 → BookAt K mg H6 b q2.pop → Deck H6 d ck t2 ∧ BookAt K mg H6 b q ∧ StandAt K H6 a p n kn hs ∧ SqT K H6 e (r.map V.int) := fun {H5 H6} s5 x6 B6 => by
        rw [bk] at B6
        exact ⟨(D3.same s5).xc (B3.same s5) x6, B6, (sa3.same s5).xc (B3.same s5) x6, ((B3.same s5).xc x6).tk _ _ _ (Same.tup s5 he3)⟩
      refine ⟨.ref e, rfl, b, z4, e, q2, .non, _, [y], r, m1, rfl, B3.same s4, at2, gm2, M1k, .inl (.inl e4), List.pairwise_singleton _ _, (by show 1 ≤ 100; decide), (fun u hu => by rw [List.mem_singleton.mp hu]; exact my1), Same.tup s4 he3, okr1, fun H5 s5 => ⟨_, rfl, ?_⟩⟩
      have s35 := s4.trans s5
      cases hb1 : hasR m1.p m1.n (plainR m1.p m1.n (heardM m1 [y])) r with
      | false =>
        refine iteF (iteF ?_)
        refine ⟨.ref b, rfl, b, _, _, rfl, s35 _ _ eb2, nf2 _ (by decide +kernel), b, q2, rfl, B3.same s35, am2, ld2, fun H8 x8 B8 => ?_⟩
        obtain ⟨f1, f2, f3, f4⟩ := fin s35 x8 B8
        exact ⟨t2, _, f1, by omega, f2, f3, f4, rfl⟩
      | true =>
        rw [hb1, Bool.true_and, Bool.not_eq_false'] at asd
        refine iteT ⟨.ref b, rfl, b, _, _, rfl, s35 _ _ eb2, nf2 _ (by decide +kernel), .str z, rfl, sz1000 (by decide : (1 : Nat) ≤ 1000), fun z6 nz6 => ?_⟩
        generalize h6 : upd H5 z6 _ = H6
        obtain ⟨s6, e6⟩ := new_of h6 nz6
        have s36 := s35.trans s6
        refine ⟨.ref e, rfl, b, z6, e, q2, .non, _, [z], r, m1, rfl, B3.same s36, at2, gm2, M1k, .inl (.inl e6), List.pairwise_singleton _ _, (by show 1 ≤ 100; decide), (fun u hu => by rw [List.mem_singleton.mp hu]; exact mz1), Same.tup s36 he3, okr1, fun H7 s7 => ⟨_, rfl, ?_⟩⟩
        rw [asd]
        refine iteF ?_
        refine ⟨.ref b, rfl, b, _, _, rfl, (s36.trans s7) _ _ eb2, nf2 _ (by decide +kernel), b, q2, rfl, B3.same (s36.trans s7), am2, ld2, fun H8 x8 B8 => ?_⟩
        obtain ⟨f1, f2, f3, f4⟩ := fin (s36.trans s7) x8 B8
        exact ⟨t2, _, f1, by omega, f2, f3, f4, rfl⟩
    · obtain ⟨t1, y8, D1, ht1, B1, sa1, he1, rfl⟩ := hW
      obtain ⟨dxb, fs, eb, nf⟩ := B1.nm
      have st : standM (momK p n kn hs) = standD p n kn hs := by
        unfold standM
        rw [momK_open S, momK_rooms S]
        rfl
      refine ⟨.ref b, rfl, b, _, _, rfl, eb, nf _ (by decide +kernel), b, q, .non, _, _, rfl, B1, ⟨by omega, .inl ⟨rfl, by omega⟩⟩, gm, M.mono (by decide), fun H2 a2 s2 dp2 => ?_⟩
      rw [st] at dp2
      refine ⟨.ref a, rfl, _, _, dp2, dp_same s2 _ _ sa1.dp, shaped_stand S, shaped_stand S, ?_⟩
      rw [eqv_stand S]
      exact k H2 t1 (D1.same s2) (by omega)
def sp_law (K : PySem.W.Frag) : Sp := fun vs H Q _ => ∃ (a : Addr) (ns : List Int), vs = [.ref a] ∧ SqL K H a (ns.map V.int) ∧ ns.length ≤ 63 ∧ ∀ H', Q (.bl true) H'
theorem ok_law (T : Top K mg) (W : StepsW w K mg) {f : Addr} {fd : FuncData} (F : Fun K "law" "law" s_law f fd) : FnG P w K mg base CX0 15 f fd ["_law_script"] (sp_law K) := by
  have O__law_deck := ok__law_deck (P := P) (w := w) (base := base) T
  have O__law_aside := ok__law_aside (P := P) (w := w) (base := base) T
  have O__law_book := ok__law_book (P := P) (w := w) (base := base) T W
  have O_Book_stand := ok_Book_stand (P := P) (w := w) (base := base) T
  have O_aside := ok_aside3 (P := P) (w := w) (base := base) T
  have O__law_told_right := ok__law_told_right (P := P) (w := w) (base := base) T W
  have O__law_none_right := ok__law_none_right (P := P) (w := w) (base := base) T W
  refine funG F sc_law (fun vs H Q E h => ?_) (fun cdv A outer s H vs Q E hr hgd h => ?_)
  · obtain ⟨a, ns, rfl, _⟩ := h
    rfl
  · obtain ⟨a, ns, rfl, hS, hl, q⟩ := h
    refine ⟨_, ((pss_cons (ps_set (i := 1) sc_law.nd rfl (.inl rfl) (pe_callO O__law_deck (hr.mono (by omega)) (by rfl) (pa_cons (pv 0) pa_nil)))
      (pss_cons (ps_for PassesOwn.never (by rfl) (pi_range1 (by rfl) T.b_range (pa_cons pe_int pa_nil)) (pg_name (i := 2) sc_law.nd rfl (.inl rfl))
        (pss_cons (ps_set (i := 3) sc_law.nd rfl (.inl rfl) (pe_callO O__law_aside (hr.mono (by omega)) (by rfl) (pa_cons (pv 1) (pa_cons pe_int (pa_cons pe_int pa_nil)))))
        (pss_one (ps_if (pt_cmpR op_notN (pv 3) pe_non (nomark _))
          (pss_cons (ps_asg (pv 3) (pg_unl (by rfl) (pgs_cons (pg_name (i := 4) sc_law.nd rfl (.inl rfl)) (pgs_cons (pg_name (i := 5) sc_law.nd rfl (.inl rfl)) (pgs_cons (pg_name (i := 6) sc_law.nd rfl (.inl rfl)) (pgs_cons (pg_name (i := 7) sc_law.nd rfl (.inl rfl)) (pgs_cons (pg_name (i := 8) sc_law.nd rfl (.inl rfl)) pgs_nil)))))))
          (pss_cons (ps_set (i := 9) sc_law.nd rfl (.inl rfl) (pe_callO O__law_book (hr.mono (by omega)) (by rfl) (pa_cons (pv 4) pa_nil)))
          (pss_cons (ps_if (pt_cmpR (op_neD hr.units) (pe_methO0 O_Book_stand T.k_Book (hr.mono (by omega)) (pv 9)) (pv 4) (nomark _))
            (pss_one (ps_ret pe_bl))
            pss_nil)
          (pss_cons (ps_asg (pe_callO O_aside (hr.mono (by omega)) (by rfl) (pa_cons (pv 4) (pa_cons (pv 5) (pa_cons (pv 6) (pa_cons (pv 7) (pa_cons (pv 8) pa_nil)))))) (pg_tup (by rfl) (pgs_cons (pg_name (i := 10) sc_law.nd rfl (.inl rfl)) (pgs_cons (pg_name (i := 11) sc_law.nd rfl (.inl rfl)) pgs_nil))))
          (pss_cons (ps_if (PW.pt (pw_and (pt_cmpR op_eq (pv 10) pe_str (nomark _)) (pw_and1 (pt_not (pt_val (pe_callO O__law_told_right (hr.mono (by omega)) (by rfl) (pa_cons (pv 9) (pa_cons (pv 3) (pa_cons (pv 11) pa_nil)))))))))
            (pss_one (ps_ret pe_bl))
            pss_nil)
          (pss_one (ps_if (PW.pt (pw_and (pt_cmpR op_ne (pv 10) pe_str (nomark _)) (pw_and1 (pt_not (pt_val (pe_callO O__law_none_right (hr.mono (by omega)) (by rfl) (pa_cons (pv 1) (pa_cons (pv 9) (pa_cons (pv 3) pa_nil)))))))))
            (pss_one (ps_ret pe_bl))
            pss_nil)))))))
          pss_nil))))
      (pss_one (ps_ret pe_bl))))), ?_⟩
    refine ⟨.ref a, rfl, a, ns, rfl, hS, hl, fun H1 d c s1 D1 _ _ => ?_⟩
    refine ⟨4, rfl, by decide, by decide, for_range (lo := 0) (n := 4) (fun i σ H' => ∃ (t' : Int) (y2 y3 y4 y5 y6 y7 y8 y9 y10 y11 : Option V), Deck H' d c t' ∧ t' ≤ 30000 * i ∧ σ = [some (.ref a), some (.ref d), y2, y3, y4, y5, y6, y7, y8, y9, y10, y11]) ⟨0, none, none, none, none, none, none, none, none, none, none, D1, by omega, rfl⟩ (fun i σ H2 hi hW => ?_) (fun σ H2 hW => ?_)⟩
    · obtain ⟨t2, y2, y3, y4, y5, y6, y7, y8, y9, y10, y11, D2, ht2, rfl⟩ := hW
      refine ⟨.ref d, rfl, d, c, t2, 5, 6, rfl, D2, by omega, by decide, by decide, by decide, by decide, fun H3 t3 k3 D3 ht3 => ?_, fun H3 l a3 b3 x y z r t3 p n kn hs k3 D3 ht3 _ el sa hb3 C nw hu => ?_⟩
      · refine ⟨.non, rfl, rfl, _, rfl, ?_⟩
        rw [decide_eq_true rfl]
        refine iteF ⟨t3, _, _, _, _, _, _, _, _, _, _, D3, by omega, rfl⟩
      · have S := C.S
        have h6 : hs.length ≤ 6 := by omega
        have p1 := S.p1
        have many := S.many
        refine ⟨.ref l, rfl, rfl, _, rfl, ?_⟩
        rw [decide_eq_false (fun z => nomatch z)]
        refine iteT ?_
        refine ⟨.ref l, rfl, l, _, rfl, .inl (.inl el), rfl, _, _, rfl, _, _, rfl, _, _, rfl, _, _, rfl, _, _, rfl, rfl, ?_⟩
        refine ⟨.ref a3, rfl, a3, p, n, kn, hs, rfl, sa.dp, S, h6, fun H4 b q4 s4 nb B4 I4 gm4 => ?_⟩
        obtain ⟨m', gm', M, e1, e2, e3⟩ := I4.last
        cases gm4.symm.trans gm'
        have lm := I4.len
        obtain ⟨dxb, fs, eb, nf⟩ := B4.nm
        have st : standM (momK p n kn hs) = standD p n kn hs := by
          unfold standM
          rw [momK_open S, momK_rooms S]
          rfl
        refine ⟨.ref b, rfl, b, _, _, rfl, eb, nf _ (by decide +kernel), b, q4, .non, _, _, rfl, B4, ⟨by omega, .inl ⟨rfl, by omega⟩⟩, gm4, M.mono (by decide), fun H5 a5 s5 dp5 => ?_⟩
        rw [st] at dp5
        have s35 := s4.trans s5
        refine ⟨.ref a3, rfl, _, _, dp5, dp_same s35 _ _ sa.dp, shaped_stand S, shaped_stand S, _, rfl, ?_⟩
        rw [eqv_stand S]
        refine iteF ?_
        have okr := C.okr
        refine ⟨.ref a3, rfl, .str x, rfl, .str y, rfl, .str z, rfl, .ref b3, rfl, .ref a3, b3, x, y, z, r, p, n, kn, hs, rfl, dp_same s35 _ _ sa.dp, Same.tup s35 hb3, S.toR, okr, C.mem, many, C.nL, C.nO, fun H6 t6 u s6 ht6 hu6 => ?_⟩
        have s36 := s35.trans s6
        have B6 := B4.same (s5.trans s6)
        have D6 := D3.same s36
        have sa6 := sa.same s36
        refine ⟨t6, _, rfl, ht6, rfl, _, _, rfl, _, _, rfl, rfl, ?_⟩
        obtain ⟨g1, g2, g3⟩ := paper_good S.fld (room_pf S [x]) (room_pf S [y]) (room_pf S [z]) okr C.nL C.nO
        generalize hpp : paperR p n (roomI p n kn hs x) (roomI p n kn hs y) (roomI p n kn hs z) r = pp at hu6
        have g1 : pp.ok p n := by rw [← hpp]; exact g1
        have g2 : pp.holds p n (roomI p n kn hs x) (roomI p n kn hs y) (roomI p n kn hs z) r = true := by rw [← hpp]; exact g2
        have g3 : barredB p n (roomI p n kn hs x) (roomI p n kn hs y) (roomI p n kn hs z) r = pp.isNone := by rw [← hpp]; exact g3
        cases pp with
        | call c =>
          obtain ⟨g, rfl, hg⟩ := dp_row (show Dp K H6 u (rowD c) from hu6)
          refine ⟨.str "call", rfl, rfl, _, rfl, ?_⟩
          rw [decide_eq_true (rfl : V.str "call" = V.str "call")]
          refine iteT ⟨.ref b, rfl, .ref l, rfl, .ref g, rfl, b, l, a3, b3, g, x, y, z, r, c, p, n, kn, hs, q4, rfl, B6, I4, gm4, s36 _ _ el, sa6.dp, Same.tup s36 hb3, hg, g1, C, g2, fun H7 x7 => ⟨true, rfl, iteF ?_⟩⟩
          refine ⟨.str "call", rfl, rfl, _, rfl, ?_⟩
          rw [decide_eq_true (rfl : V.str "call" = V.str "call")]
          refine iteF (iteF ?_)
          exact ⟨t3, _, _, _, _, _, _, _, _, _, _, D6.xc B6 x7, by omega, rfl⟩
        | none R =>
          have nc : decide (V.str "none" = V.str "call") = false := by decide +kernel
          refine ⟨.str "none", rfl, rfl, _, rfl, ?_⟩
          rw [nc]
          refine iteF (iteF ?_)
          refine ⟨.str "none", rfl, rfl, _, rfl, ?_⟩
          rw [nc]
          refine iteT ⟨.ref d, rfl, .ref b, rfl, .ref l, rfl, d, c, b, l, a3, b3, t3, x, y, z, r, p, n, kn, hs, q4, rfl, D6, by omega, B6, I4, gm4, s36 _ _ el, sa6, Same.tup s36 hb3, C, g3, fun H7 t7 D7 ht7 => ⟨true, rfl, iteF ?_⟩⟩
          exact ⟨t7, _, _, _, _, _, _, _, _, _, _, D7, by omega, rfl⟩
    · exact q _
end
end OC
set_option Elab.async false
set_option linter.all false
set_option maxRecDepth 100000
namespace OC
open PySem PySem.Spec PyProof.Rows L2
/-! ### the end -/
set_option maxHeartbeats 8000000 in
theorem all_mk {l : PySem.W.OpenLaw} {w : World} {K : PySem.W.Frag} {h : Heap} {mg : Str → Option Value} {fa : Addr} (X : K.In h) (G : h.Ns mainGlobals mg) (hfa : mg "law" = some (.ref fa))
    {LMoment : Addr} (qaMoment : PySem.W.nsIn K mainGlobals "Moment" = some (some (.ref LMoment))) (qpMoment : PySem.W.plainGet K LMoment Str.empty = true) (qhMoment : PySem.W.hasDictIn K LMoment = true) (qoMoment : PySem.W.plainOver K LMoment = true) (qsMoment : PySem.W.findIn K (.ref LMoment) "__setattr__" = some (some (.builtin "object.__setattr__"))) (qmMoment : PySem.W.makesIn K LMoment = true) (qkMoment : PySem.W.keepIn K (.ref LMoment) = true)
    (qnMoment_p : PySem.W.findIn K (.ref LMoment) "p" = some none)
    (qnMoment_n : PySem.W.findIn K (.ref LMoment) "n" = some none)
    (qnMoment_called : PySem.W.findIn K (.ref LMoment) "called" = some none)
    (qnMoment_hands : PySem.W.findIn K (.ref LMoment) "hands" = some none)
    {LBook : Addr} (qaBook : PySem.W.nsIn K mainGlobals "Book" = some (some (.ref LBook))) (qpBook : PySem.W.plainGet K LBook Str.empty = true) (qhBook : PySem.W.hasDictIn K LBook = true) (qoBook : PySem.W.plainOver K LBook = true) (qsBook : PySem.W.findIn K (.ref LBook) "__setattr__" = some (some (.builtin "object.__setattr__"))) (qmBook : PySem.W.makesIn K LBook = true) (qkBook : PySem.W.keepIn K (.ref LBook) = true)
    (qnBook_made : PySem.W.findIn K (.ref LBook) "made" = some none)
    (qnBook_moments : PySem.W.findIn K (.ref LBook) "moments" = some none)
    (qnBook_done : PySem.W.findIn K (.ref LBook) "done" = some none)
    (qnBook_trials : PySem.W.findIn K (.ref LBook) "trials" = some none)
    (qnBook_amid : PySem.W.findIn K (.ref LBook) "amid" = some none)
    {tLETTERS : Tok} (qcLETTERS : PySem.W.nsIn K mainGlobals "LETTERS" = some (some (.str "abcdefghijklmnopqrstuvwxyz" tLETTERS)))
    {tDEEDS : Tok} (qcDEEDS : PySem.W.nsIn K mainGlobals "DEEDS" = some (some (.int 60 tDEEDS)))
    {f0 : Addr} {od0 an0 : Option Addr} {sl0 : Array (Option Value)} {oc0 kV0 dc0 pm0 cd0 ct0 : Value}
    (a0 : PySem.W.nsIn K mainGlobals "is_name" = some (some (.ref f0))) (l0 : K.lookup f0 = some ⟨oc0, od0, .func (PySem.W.fnOf "is_name" "is_name" (defArgs s_is_name) (defBody s_is_name) (defScope s_is_name) .none kV0 dc0 pm0 an0 cd0 ct0), sl0⟩) (c0 : PySem.W.codeIn K cd0 "is_name" = true) (k0 : PySem.W.keepIn K (.ref f0) = true)
    {f1 : Addr} {od1 an1 : Option Addr} {sl1 : Array (Option Value)} {oc1 kV1 dc1 pm1 cd1 ct1 : Value}
    (a1 : PySem.W.nsIn K mainGlobals "is_rising" = some (some (.ref f1))) (l1 : K.lookup f1 = some ⟨oc1, od1, .func (PySem.W.fnOf "is_rising" "is_rising" (defArgs s_is_rising) (defBody s_is_rising) (defScope s_is_rising) .none kV1 dc1 pm1 an1 cd1 ct1), sl1⟩) (c1 : PySem.W.codeIn K cd1 "is_rising" = true) (k1 : PySem.W.keepIn K (.ref f1) = true)
    {f2 : Addr} {od2 an2 : Option Addr} {sl2 : Array (Option Value)} {oc2 kV2 dc2 pm2 cd2 ct2 : Value}
    (a2 : PySem.W.nsIn K mainGlobals "are_names" = some (some (.ref f2))) (l2 : K.lookup f2 = some ⟨oc2, od2, .func (PySem.W.fnOf "are_names" "are_names" (defArgs s_are_names) (defBody s_are_names) (defScope s_are_names) .none kV2 dc2 pm2 an2 cd2 ct2), sl2⟩) (c2 : PySem.W.codeIn K cd2 "are_names" = true) (k2 : PySem.W.keepIn K (.ref f2) = true)
    {f3 : Addr} {od3 an3 : Option Addr} {sl3 : Array (Option Value)} {oc3 kV3 dc3 pm3 cd3 ct3 : Value}
    (a3 : PySem.W.nsIn K mainGlobals "is_number" = some (some (.ref f3))) (l3 : K.lookup f3 = some ⟨oc3, od3, .func (PySem.W.fnOf "is_number" "is_number" (defArgs s_is_number) (defBody s_is_number) (defScope s_is_number) .none kV3 dc3 pm3 an3 cd3 ct3), sl3⟩) (c3 : PySem.W.codeIn K cd3 "is_number" = true) (k3 : PySem.W.keepIn K (.ref f3) = true)
    {f4 : Addr} {od4 an4 : Option Addr} {sl4 : Array (Option Value)} {oc4 kV4 dc4 pm4 cd4 ct4 : Value}
    (a4 : PySem.W.nsIn K mainGlobals "is_rest" = some (some (.ref f4))) (l4 : K.lookup f4 = some ⟨oc4, od4, .func (PySem.W.fnOf "is_rest" "is_rest" (defArgs s_is_rest) (defBody s_is_rest) (defScope s_is_rest) .none kV4 dc4 pm4 an4 cd4 ct4), sl4⟩) (c4 : PySem.W.codeIn K cd4 "is_rest" = true) (k4 : PySem.W.keepIn K (.ref f4) = true)
    {f5 : Addr} {od5 an5 : Option Addr} {sl5 : Array (Option Value)} {oc5 kV5 dc5 pm5 cd5 ct5 : Value}
    (a5 : PySem.W.nsIn K mainGlobals "contrary" = some (some (.ref f5))) (l5 : K.lookup f5 = some ⟨oc5, od5, .func (PySem.W.fnOf "contrary" "contrary" (defArgs s_contrary) (defBody s_contrary) (defScope s_contrary) .none kV5 dc5 pm5 an5 cd5 ct5), sl5⟩) (c5 : PySem.W.codeIn K cd5 "contrary" = true) (k5 : PySem.W.keepIn K (.ref f5) = true)
    {f6 : Addr} {od6 an6 : Option Addr} {sl6 : Array (Option Value)} {oc6 kV6 dc6 pm6 cd6 ct6 : Value}
    (a6 : PySem.W.nsIn K mainGlobals "is_row" = some (some (.ref f6))) (l6 : K.lookup f6 = some ⟨oc6, od6, .func (PySem.W.fnOf "is_row" "is_row" (defArgs s_is_row) (defBody s_is_row) (defScope s_is_row) .none kV6 dc6 pm6 an6 cd6 ct6), sl6⟩) (c6 : PySem.W.codeIn K cd6 "is_row" = true) (k6 : PySem.W.keepIn K (.ref f6) = true)
    {f7 : Addr} {od7 an7 : Option Addr} {sl7 : Array (Option Value)} {oc7 kV7 dc7 pm7 cd7 ct7 : Value}
    (a7 : PySem.W.nsIn K mainGlobals "added" = some (some (.ref f7))) (l7 : K.lookup f7 = some ⟨oc7, od7, .func (PySem.W.fnOf "added" "added" (defArgs s_added) (defBody s_added) (defScope s_added) .none kV7 dc7 pm7 an7 cd7 ct7), sl7⟩) (c7 : PySem.W.codeIn K cd7 "added" = true) (k7 : PySem.W.keepIn K (.ref f7) = true)
    {f8 : Addr} {od8 an8 : Option Addr} {sl8 : Array (Option Value)} {oc8 kV8 dc8 pm8 cd8 ct8 : Value}
    (a8 : PySem.W.nsIn K mainGlobals "times" = some (some (.ref f8))) (l8 : K.lookup f8 = some ⟨oc8, od8, .func (PySem.W.fnOf "times" "times" (defArgs s_times) (defBody s_times) (defScope s_times) .none kV8 dc8 pm8 an8 cd8 ct8), sl8⟩) (c8 : PySem.W.codeIn K cd8 "times" = true) (k8 : PySem.W.keepIn K (.ref f8) = true)
    {f9 : Addr} {od9 an9 : Option Addr} {sl9 : Array (Option Value)} {oc9 kV9 dc9 pm9 cd9 ct9 : Value}
    (a9 : PySem.W.nsIn K mainGlobals "worth" = some (some (.ref f9))) (l9 : K.lookup f9 = some ⟨oc9, od9, .func (PySem.W.fnOf "worth" "worth" (defArgs s_worth) (defBody s_worth) (defScope s_worth) .none kV9 dc9 pm9 an9 cd9 ct9), sl9⟩) (c9 : PySem.W.codeIn K cd9 "worth" = true) (k9 : PySem.W.keepIn K (.ref f9) = true)
    {f10 : Addr} {od10 an10 : Option Addr} {sl10 : Array (Option Value)} {oc10 kV10 dc10 pm10 cd10 ct10 : Value}
    (a10 : PySem.W.nsIn K mainGlobals "made_of" = some (some (.ref f10))) (l10 : K.lookup f10 = some ⟨oc10, od10, .func (PySem.W.fnOf "made_of" "made_of" (defArgs s_made_of) (defBody s_made_of) (defScope s_made_of) .none kV10 dc10 pm10 an10 cd10 ct10), sl10⟩) (c10 : PySem.W.codeIn K cd10 "made_of" = true) (k10 : PySem.W.keepIn K (.ref f10) = true)
    {f11 : Addr} {od11 an11 : Option Addr} {sl11 : Array (Option Value)} {oc11 kV11 dc11 pm11 cd11 ct11 : Value}
    (a11 : PySem.W.nsIn K mainGlobals "check_hand" = some (some (.ref f11))) (l11 : K.lookup f11 = some ⟨oc11, od11, .func (PySem.W.fnOf "check_hand" "check_hand" (defArgs s_check_hand) (defBody s_check_hand) (defScope s_check_hand) .none kV11 dc11 pm11 an11 cd11 ct11), sl11⟩) (c11 : PySem.W.codeIn K cd11 "check_hand" = true) (k11 : PySem.W.keepIn K (.ref f11) = true)
    {f12 : Addr} {od12 an12 : Option Addr} {sl12 : Array (Option Value)} {oc12 kV12 dc12 pm12 cd12 ct12 : Value}
    (a12 : PySem.W.nsIn K mainGlobals "check_hands" = some (some (.ref f12))) (l12 : K.lookup f12 = some ⟨oc12, od12, .func (PySem.W.fnOf "check_hands" "check_hands" (defArgs s_check_hands) (defBody s_check_hands) (defScope s_check_hands) .none kV12 dc12 pm12 an12 cd12 ct12), sl12⟩) (c12 : PySem.W.codeIn K cd12 "check_hands" = true) (k12 : PySem.W.keepIn K (.ref f12) = true)
    {f13 : Addr} {od13 an13 : Option Addr} {sl13 : Array (Option Value)} {oc13 kV13 dc13 pm13 cd13 ct13 : Value}
    (a13 : PySem.W.nsIn K mainGlobals "check_row" = some (some (.ref f13))) (l13 : K.lookup f13 = some ⟨oc13, od13, .func (PySem.W.fnOf "check_row" "check_row" (defArgs s_check_row) (defBody s_check_row) (defScope s_check_row) .none kV13 dc13 pm13 an13 cd13 ct13), sl13⟩) (c13 : PySem.W.codeIn K cd13 "check_row" = true) (k13 : PySem.W.keepIn K (.ref f13) = true)
    {f14 : Addr} {od14 an14 : Option Addr} {sl14 : Array (Option Value)} {oc14 kV14 dc14 pm14 cd14 ct14 : Value}
    (a14 : PySem.W.nsIn K mainGlobals "is_noughts" = some (some (.ref f14))) (l14 : K.lookup f14 = some ⟨oc14, od14, .func (PySem.W.fnOf "is_noughts" "is_noughts" (defArgs s_is_noughts) (defBody s_is_noughts) (defScope s_is_noughts) .none kV14 dc14 pm14 an14 cd14 ct14), sl14⟩) (c14 : PySem.W.codeIn K cd14 "is_noughts" = true) (k14 : PySem.W.keepIn K (.ref f14) = true)
    {f15 : Addr} {od15 an15 : Option Addr} {sl15 : Array (Option Value)} {oc15 kV15 dc15 pm15 cd15 ct15 : Value}
    (a15 : PySem.W.nsIn K mainGlobals "first_place" = some (some (.ref f15))) (l15 : K.lookup f15 = some ⟨oc15, od15, .func (PySem.W.fnOf "first_place" "first_place" (defArgs s_first_place) (defBody s_first_place) (defScope s_first_place) .none kV15 dc15 pm15 an15 cd15 ct15), sl15⟩) (c15 : PySem.W.codeIn K cd15 "first_place" = true) (k15 : PySem.W.keepIn K (.ref f15) = true)
    {f16 : Addr} {od16 an16 : Option Addr} {sl16 : Array (Option Value)} {oc16 kV16 dc16 pm16 cd16 ct16 : Value}
    (a16 : PySem.W.nsIn K mainGlobals "cleared" = some (some (.ref f16))) (l16 : K.lookup f16 = some ⟨oc16, od16, .func (PySem.W.fnOf "cleared" "cleared" (defArgs s_cleared) (defBody s_cleared) (defScope s_cleared) .none kV16 dc16 pm16 an16 cd16 ct16), sl16⟩) (c16 : PySem.W.codeIn K cd16 "cleared" = true) (k16 : PySem.W.keepIn K (.ref f16) = true)
    {f17 : Addr} {od17 an17 : Option Addr} {sl17 : Array (Option Value)} {oc17 kV17 dc17 pm17 cd17 ct17 : Value}
    (a17 : PySem.W.nsIn K mainGlobals "left_of" = some (some (.ref f17))) (l17 : K.lookup f17 = some ⟨oc17, od17, .func (PySem.W.fnOf "left_of" "left_of" (defArgs s_left_of) (defBody s_left_of) (defScope s_left_of) .none kV17 dc17 pm17 an17 cd17 ct17), sl17⟩) (c17 : PySem.W.codeIn K cd17 "left_of" = true) (k17 : PySem.W.keepIn K (.ref f17) = true)
    {f18 : Addr} {od18 an18 : Option Addr} {sl18 : Array (Option Value)} {oc18 kV18 dc18 pm18 cd18 ct18 : Value}
    (a18 : PySem.W.nsIn K mainGlobals "widened" = some (some (.ref f18))) (l18 : K.lookup f18 = some ⟨oc18, od18, .func (PySem.W.fnOf "widened" "widened" (defArgs s_widened) (defBody s_widened) (defScope s_widened) .none kV18 dc18 pm18 an18 cd18 ct18), sl18⟩) (c18 : PySem.W.codeIn K cd18 "widened" = true) (k18 : PySem.W.keepIn K (.ref f18) = true)
    {f19 : Addr} {od19 an19 : Option Addr} {sl19 : Array (Option Value)} {oc19 kV19 dc19 pm19 cd19 ct19 : Value}
    (a19 : PySem.W.nsIn K mainGlobals "room_of" = some (some (.ref f19))) (l19 : K.lookup f19 = some ⟨oc19, od19, .func (PySem.W.fnOf "room_of" "room_of" (defArgs s_room_of) (defBody s_room_of) (defScope s_room_of) .none kV19 dc19 pm19 an19 cd19 ct19), sl19⟩) (c19 : PySem.W.codeIn K cd19 "room_of" = true) (k19 : PySem.W.keepIn K (.ref f19) = true)
    {f20 : Addr} {od20 an20 : Option Addr} {sl20 : Array (Option Value)} {oc20 kV20 dc20 pm20 cd20 ct20 : Value}
    (a20 : PySem.W.nsIn K mainGlobals "within" = some (some (.ref f20))) (l20 : K.lookup f20 = some ⟨oc20, od20, .func (PySem.W.fnOf "within" "within" (defArgs s_within) (defBody s_within) (defScope s_within) .none kV20 dc20 pm20 an20 cd20 ct20), sl20⟩) (c20 : PySem.W.codeIn K cd20 "within" = true) (k20 : PySem.W.keepIn K (.ref f20) = true)
    {f21 : Addr} {od21 an21 : Option Addr} {sl21 : Array (Option Value)} {oc21 kV21 dc21 pm21 cd21 ct21 : Value}
    (a21 : PySem.W.nsIn K mainGlobals "first_outside" = some (some (.ref f21))) (l21 : K.lookup f21 = some ⟨oc21, od21, .func (PySem.W.fnOf "first_outside" "first_outside" (defArgs s_first_outside) (defBody s_first_outside) (defScope s_first_outside) .none kV21 dc21 pm21 an21 cd21 ct21), sl21⟩) (c21 : PySem.W.codeIn K cd21 "first_outside" = true) (k21 : PySem.W.keepIn K (.ref f21) = true)
    {f22 : Addr} {od22 an22 : Option Addr} {sl22 : Array (Option Value)} {oc22 kV22 dc22 pm22 cd22 ct22 : Value}
    (a22 : PySem.W.nsIn K mainGlobals "inside" = some (some (.ref f22))) (l22 : K.lookup f22 = some ⟨oc22, od22, .func (PySem.W.fnOf "inside" "inside" (defArgs s_inside) (defBody s_inside) (defScope s_inside) .none kV22 dc22 pm22 an22 cd22 ct22), sl22⟩) (c22 : PySem.W.codeIn K cd22 "inside" = true) (k22 : PySem.W.keepIn K (.ref f22) = true)
    {f23 : Addr} {od23 an23 : Option Addr} {sl23 : Array (Option Value)} {oc23 kV23 dc23 pm23 cd23 ct23 : Value}
    (a23 : PySem.W.nsIn K mainGlobals "joined" = some (some (.ref f23))) (l23 : K.lookup f23 = some ⟨oc23, od23, .func (PySem.W.fnOf "joined" "joined" (defArgs s_joined) (defBody s_joined) (defScope s_joined) .none kV23 dc23 pm23 an23 cd23 ct23), sl23⟩) (c23 : PySem.W.codeIn K cd23 "joined" = true) (k23 : PySem.W.keepIn K (.ref f23) = true)
    {f24 : Addr} {od24 an24 : Option Addr} {sl24 : Array (Option Value)} {oc24 kV24 dc24 pm24 cd24 ct24 : Value}
    (a24 : PySem.W.nsIn K mainGlobals "shared" = some (some (.ref f24))) (l24 : K.lookup f24 = some ⟨oc24, od24, .func (PySem.W.fnOf "shared" "shared" (defArgs s_shared) (defBody s_shared) (defScope s_shared) .none kV24 dc24 pm24 an24 cd24 ct24), sl24⟩) (c24 : PySem.W.codeIn K cd24 "shared" = true) (k24 : PySem.W.keepIn K (.ref f24) = true)
    {f25 : Addr} {od25 an25 : Option Addr} {sl25 : Array (Option Value)} {oc25 kV25 dc25 pm25 cd25 ct25 : Value}
    (a25 : PySem.W.nsIn K mainGlobals "across" = some (some (.ref f25))) (l25 : K.lookup f25 = some ⟨oc25, od25, .func (PySem.W.fnOf "across" "across" (defArgs s_across) (defBody s_across) (defScope s_across) .none kV25 dc25 pm25 an25 cd25 ct25), sl25⟩) (c25 : PySem.W.codeIn K cd25 "across" = true) (k25 : PySem.W.keepIn K (.ref f25) = true)
    {f26 : Addr} {od26 an26 : Option Addr} {sl26 : Array (Option Value)} {oc26 kV26 dc26 pm26 cd26 ct26 : Value}
    (a26 : PySem.W.nsIn K mainGlobals "across_at" = some (some (.ref f26))) (l26 : K.lookup f26 = some ⟨oc26, od26, .func (PySem.W.fnOf "across_at" "across_at" (defArgs s_across_at) (defBody s_across_at) (defScope s_across_at) .none kV26 dc26 pm26 an26 cd26 ct26), sl26⟩) (c26 : PySem.W.codeIn K cd26 "across_at" = true) (k26 : PySem.W.keepIn K (.ref f26) = true)
    {f27 : Addr} {od27 an27 : Option Addr} {sl27 : Array (Option Value)} {oc27 kV27 dc27 pm27 cd27 ct27 : Value}
    (a27 : PySem.W.nsIn K mainGlobals "names_of" = some (some (.ref f27))) (l27 : K.lookup f27 = some ⟨oc27, od27, .func (PySem.W.fnOf "names_of" "names_of" (defArgs s_names_of) (defBody s_names_of) (defScope s_names_of) .none kV27 dc27 pm27 an27 cd27 ct27), sl27⟩) (c27 : PySem.W.codeIn K cd27 "names_of" = true) (k27 : PySem.W.keepIn K (.ref f27) = true)
    {f28 : Addr} {od28 an28 : Option Addr} {sl28 : Array (Option Value)} {oc28 kV28 dc28 pm28 cd28 ct28 : Value}
    (a28 : PySem.W.nsIn K mainGlobals "room_in" = some (some (.ref f28))) (l28 : K.lookup f28 = some ⟨oc28, od28, .func (PySem.W.fnOf "room_in" "room_in" (defArgs s_room_in) (defBody s_room_in) (defScope s_room_in) .none kV28 dc28 pm28 an28 cd28 ct28), sl28⟩) (c28 : PySem.W.codeIn K cd28 "room_in" = true) (k28 : PySem.W.keepIn K (.ref f28) = true)
    {f29 : Addr} {od29 an29 : Option Addr} {sl29 : Array (Option Value)} {oc29 kV29 dc29 pm29 cd29 ct29 : Value}
    (a29 : PySem.W.nsIn K mainGlobals "aside" = some (some (.ref f29))) (l29 : K.lookup f29 = some ⟨oc29, od29, .func (PySem.W.fnOf "aside" "aside" (defArgs s_aside) (defBody s_aside) (defScope s_aside) .none kV29 dc29 pm29 an29 cd29 ct29), sl29⟩) (c29 : PySem.W.codeIn K cd29 "aside" = true) (k29 : PySem.W.keepIn K (.ref f29) = true)
    {f30 : Addr} {od30 an30 : Option Addr} {sl30 : Array (Option Value)} {oc30 kV30 dc30 pm30 cd30 ct30 : Value}
    (a30 : PySem.W.nsIn K mainGlobals "rooms_of_three" = some (some (.ref f30))) (l30 : K.lookup f30 = some ⟨oc30, od30, .func (PySem.W.fnOf "rooms_of_three" "rooms_of_three" (defArgs s_rooms_of_three) (defBody s_rooms_of_three) (defScope s_rooms_of_three) .none kV30 dc30 pm30 an30 cd30 ct30), sl30⟩) (c30 : PySem.W.codeIn K cd30 "rooms_of_three" = true) (k30 : PySem.W.keepIn K (.ref f30) = true)
    {f31 : Addr} {od31 an31 : Option Addr} {sl31 : Array (Option Value)} {oc31 kV31 dc31 pm31 cd31 ct31 : Value}
    (a31 : PySem.W.nsIn K mainGlobals "way_of" = some (some (.ref f31))) (l31 : K.lookup f31 = some ⟨oc31, od31, .func (PySem.W.fnOf "way_of" "way_of" (defArgs s_way_of) (defBody s_way_of) (defScope s_way_of) .none kV31 dc31 pm31 an31 cd31 ct31), sl31⟩) (c31 : PySem.W.codeIn K cd31 "way_of" = true) (k31 : PySem.W.keepIn K (.ref f31) = true)
    {f32 : Addr} {od32 an32 : Option Addr} {sl32 : Array (Option Value)} {oc32 kV32 dc32 pm32 cd32 ct32 : Value}
    (a32 : PySem.W.nsIn K mainGlobals "is_aside" = some (some (.ref f32))) (l32 : K.lookup f32 = some ⟨oc32, od32, .func (PySem.W.fnOf "is_aside" "is_aside" (defArgs s_is_aside) (defBody s_is_aside) (defScope s_is_aside) .none kV32 dc32 pm32 an32 cd32 ct32), sl32⟩) (c32 : PySem.W.codeIn K cd32 "is_aside" = true) (k32 : PySem.W.keepIn K (.ref f32) = true)
    {f33 : Addr} {od33 an33 : Option Addr} {sl33 : Array (Option Value)} {oc33 kV33 dc33 pm33 cd33 ct33 : Value}
    (a33 : PySem.W.nsIn K mainGlobals "is_barred" = some (some (.ref f33))) (l33 : K.lookup f33 = some ⟨oc33, od33, .func (PySem.W.fnOf "is_barred" "is_barred" (defArgs s_is_barred) (defBody s_is_barred) (defScope s_is_barred) .none kV33 dc33 pm33 an33 cd33 ct33), sl33⟩) (c33 : PySem.W.codeIn K cd33 "is_barred" = true) (k33 : PySem.W.keepIn K (.ref f33) = true)
    {f34 : Addr} {od34 an34 : Option Addr} {sl34 : Array (Option Value)} {oc34 kV34 dc34 pm34 cd34 ct34 : Value}
    (a34 : PySem.W.nsIn K mainGlobals "call_aside" = some (some (.ref f34))) (l34 : K.lookup f34 = some ⟨oc34, od34, .func (PySem.W.fnOf "call_aside" "call_aside" (defArgs s_call_aside) (defBody s_call_aside) (defScope s_call_aside) .none kV34 dc34 pm34 an34 cd34 ct34), sl34⟩) (c34 : PySem.W.codeIn K cd34 "call_aside" = true) (k34 : PySem.W.keepIn K (.ref f34) = true)
    {f35 : Addr} {od35 an35 : Option Addr} {sl35 : Array (Option Value)} {oc35 kV35 dc35 pm35 cd35 ct35 : Value}
    (a35 : PySem.W.nsIn K mainGlobals "led" = some (some (.ref f35))) (l35 : K.lookup f35 = some ⟨oc35, od35, .func (PySem.W.fnOf "led" "led" (defArgs s_led) (defBody s_led) (defScope s_led) .none kV35 dc35 pm35 an35 cd35 ct35), sl35⟩) (c35 : PySem.W.codeIn K cd35 "led" = true) (k35 : PySem.W.keepIn K (.ref f35) = true)
    {f36 : Addr} {od36 an36 : Option Addr} {sl36 : Array (Option Value)} {oc36 kV36 dc36 pm36 cd36 ct36 : Value}
    (a36 : PySem.W.nsIn K mainGlobals "makes" = some (some (.ref f36))) (l36 : K.lookup f36 = some ⟨oc36, od36, .func (PySem.W.fnOf "makes" "makes" (defArgs s_makes) (defBody s_makes) (defScope s_makes) .none kV36 dc36 pm36 an36 cd36 ct36), sl36⟩) (c36 : PySem.W.codeIn K cd36 "makes" = true) (k36 : PySem.W.keepIn K (.ref f36) = true)
    {f37 : Addr} {od37 an37 : Option Addr} {sl37 : Array (Option Value)} {oc37 kV37 dc37 pm37 cd37 ct37 : Value}
    (a37 : PySem.W.nsIn K mainGlobals "mark" = some (some (.ref f37))) (l37 : K.lookup f37 = some ⟨oc37, od37, .func (PySem.W.fnOf "mark" "mark" (defArgs s_mark) (defBody s_mark) (defScope s_mark) .none kV37 dc37 pm37 an37 cd37 ct37), sl37⟩) (c37 : PySem.W.codeIn K cd37 "mark" = true) (k37 : PySem.W.keepIn K (.ref f37) = true)
    {f38 : Addr} {od38 an38 : Option Addr} {sl38 : Array (Option Value)} {oc38 kV38 dc38 pm38 cd38 ct38 : Value}
    (a38 : PySem.W.nsIn K mainGlobals "makes_hold" = some (some (.ref f38))) (l38 : K.lookup f38 = some ⟨oc38, od38, .func (PySem.W.fnOf "makes_hold" "makes_hold" (defArgs s_makes_hold) (defBody s_makes_hold) (defScope s_makes_hold) .none kV38 dc38 pm38 an38 cd38 ct38), sl38⟩) (c38 : PySem.W.codeIn K cd38 "makes_hold" = true) (k38 : PySem.W.keepIn K (.ref f38) = true)
    {f39 : Addr} {od39 an39 : Option Addr} {sl39 : Array (Option Value)} {oc39 kV39 dc39 pm39 cd39 ct39 : Value}
    (a39 : PySem.W.nsIn K mainGlobals "parted" = some (some (.ref f39))) (l39 : K.lookup f39 = some ⟨oc39, od39, .func (PySem.W.fnOf "parted" "parted" (defArgs s_parted) (defBody s_parted) (defScope s_parted) .none kV39 dc39 pm39 an39 cd39 ct39), sl39⟩) (c39 : PySem.W.codeIn K cd39 "parted" = true) (k39 : PySem.W.keepIn K (.ref f39) = true)
    {f40 : Addr} {od40 an40 : Option Addr} {sl40 : Array (Option Value)} {oc40 kV40 dc40 pm40 cd40 ct40 : Value}
    (a40 : PySem.W.nsIn K mainGlobals "parted_hold" = some (some (.ref f40))) (l40 : K.lookup f40 = some ⟨oc40, od40, .func (PySem.W.fnOf "parted_hold" "parted_hold" (defArgs s_parted_hold) (defBody s_parted_hold) (defScope s_parted_hold) .none kV40 dc40 pm40 an40 cd40 ct40), sl40⟩) (c40 : PySem.W.codeIn K cd40 "parted_hold" = true) (k40 : PySem.W.keepIn K (.ref f40) = true)
    {f41 : Addr} {od41 an41 : Option Addr} {sl41 : Array (Option Value)} {oc41 kV41 dc41 pm41 cd41 ct41 : Value}
    (a41 : PySem.W.nsIn K mainGlobals "needed" = some (some (.ref f41))) (l41 : K.lookup f41 = some ⟨oc41, od41, .func (PySem.W.fnOf "needed" "needed" (defArgs s_needed) (defBody s_needed) (defScope s_needed) .none kV41 dc41 pm41 an41 cd41 ct41), sl41⟩) (c41 : PySem.W.codeIn K cd41 "needed" = true) (k41 : PySem.W.keepIn K (.ref f41) = true)
    {f42 : Addr} {od42 an42 : Option Addr} {sl42 : Array (Option Value)} {oc42 kV42 dc42 pm42 cd42 ct42 : Value}
    (a42 : PySem.W.nsIn K mainGlobals "names_at" = some (some (.ref f42))) (l42 : K.lookup f42 = some ⟨oc42, od42, .func (PySem.W.fnOf "names_at" "names_at" (defArgs s_names_at) (defBody s_names_at) (defScope s_names_at) .none kV42 dc42 pm42 an42 cd42 ct42), sl42⟩) (c42 : PySem.W.codeIn K cd42 "names_at" = true) (k42 : PySem.W.keepIn K (.ref f42) = true)
    {f43 : Addr} {od43 an43 : Option Addr} {sl43 : Array (Option Value)} {oc43 kV43 dc43 pm43 cd43 ct43 : Value}
    (a43 : PySem.W.nsIn K mainGlobals "heard_at" = some (some (.ref f43))) (l43 : K.lookup f43 = some ⟨oc43, od43, .func (PySem.W.fnOf "heard_at" "heard_at" (defArgs s_heard_at) (defBody s_heard_at) (defScope s_heard_at) .none kV43 dc43 pm43 an43 cd43 ct43), sl43⟩) (c43 : PySem.W.codeIn K cd43 "heard_at" = true) (k43 : PySem.W.keepIn K (.ref f43) = true)
    {f44 : Addr} {od44 an44 : Option Addr} {sl44 : Array (Option Value)} {oc44 kV44 dc44 pm44 cd44 ct44 : Value}
    (a44 : PySem.W.nsIn K mainGlobals "known_at" = some (some (.ref f44))) (l44 : K.lookup f44 = some ⟨oc44, od44, .func (PySem.W.fnOf "known_at" "known_at" (defArgs s_known_at) (defBody s_known_at) (defScope s_known_at) .none kV44 dc44 pm44 an44 cd44 ct44), sl44⟩) (c44 : PySem.W.codeIn K cd44 "known_at" = true) (k44 : PySem.W.keepIn K (.ref f44) = true)
    {f45 : Addr} {od45 an45 : Option Addr} {sl45 : Array (Option Value)} {oc45 kV45 dc45 pm45 cd45 ct45 : Value}
    (a45 : PySem.W.nsIn K mainGlobals "why_at" = some (some (.ref f45))) (l45 : K.lookup f45 = some ⟨oc45, od45, .func (PySem.W.fnOf "why_at" "why_at" (defArgs s_why_at) (defBody s_why_at) (defScope s_why_at) .none kV45 dc45 pm45 an45 cd45 ct45), sl45⟩) (c45 : PySem.W.codeIn K cd45 "why_at" = true) (k45 : PySem.W.keepIn K (.ref f45) = true)
    {f46 : Addr} {od46 an46 : Option Addr} {sl46 : Array (Option Value)} {oc46 kV46 dc46 pm46 cd46 ct46 : Value}
    (a46 : PySem.W.nsIn K mainGlobals "stand_at" = some (some (.ref f46))) (l46 : K.lookup f46 = some ⟨oc46, od46, .func (PySem.W.fnOf "stand_at" "stand_at" (defArgs s_stand_at) (defBody s_stand_at) (defScope s_stand_at) .none kV46 dc46 pm46 an46 cd46 ct46), sl46⟩) (c46 : PySem.W.codeIn K cd46 "stand_at" = true) (k46 : PySem.W.keepIn K (.ref f46) = true)
    {f47 : Addr} {od47 an47 : Option Addr} {sl47 : Array (Option Value)} {oc47 kV47 dc47 pm47 cd47 ct47 : Value}
    (a47 : PySem.W.nsIn K mainGlobals "gained" = some (some (.ref f47))) (l47 : K.lookup f47 = some ⟨oc47, od47, .func (PySem.W.fnOf "gained" "gained" (defArgs s_gained) (defBody s_gained) (defScope s_gained) .none kV47 dc47 pm47 an47 cd47 ct47), sl47⟩) (c47 : PySem.W.codeIn K cd47 "gained" = true) (k47 : PySem.W.keepIn K (.ref f47) = true)
    {f48 : Addr} {od48 an48 : Option Addr} {sl48 : Array (Option Value)} {oc48 kV48 dc48 pm48 cd48 ct48 : Value}
    (a48 : PySem.W.nsIn K mainGlobals "are_first_rows" = some (some (.ref f48))) (l48 : K.lookup f48 = some ⟨oc48, od48, .func (PySem.W.fnOf "are_first_rows" "are_first_rows" (defArgs s_are_first_rows) (defBody s_are_first_rows) (defScope s_are_first_rows) .none kV48 dc48 pm48 an48 cd48 ct48), sl48⟩) (c48 : PySem.W.codeIn K cd48 "are_first_rows" = true) (k48 : PySem.W.keepIn K (.ref f48) = true)
    {f49 : Addr} {od49 an49 : Option Addr} {sl49 : Array (Option Value)} {oc49 kV49 dc49 pm49 cd49 ct49 : Value}
    (a49 : PySem.W.nsIn K mainGlobals "after_call" = some (some (.ref f49))) (l49 : K.lookup f49 = some ⟨oc49, od49, .func (PySem.W.fnOf "after_call" "after_call" (defArgs s_after_call) (defBody s_after_call) (defScope s_after_call) .none kV49 dc49 pm49 an49 cd49 ct49), sl49⟩) (c49 : PySem.W.codeIn K cd49 "after_call" = true) (k49 : PySem.W.keepIn K (.ref f49) = true)
    {f50 : Addr} {od50 an50 : Option Addr} {sl50 : Array (Option Value)} {oc50 kV50 dc50 pm50 cd50 ct50 : Value}
    (a50 : PySem.W.nsIn K mainGlobals "after_whisper" = some (some (.ref f50))) (l50 : K.lookup f50 = some ⟨oc50, od50, .func (PySem.W.fnOf "after_whisper" "after_whisper" (defArgs s_after_whisper) (defBody s_after_whisper) (defScope s_after_whisper) .none kV50 dc50 pm50 an50 cd50 ct50), sl50⟩) (c50 : PySem.W.codeIn K cd50 "after_whisper" = true) (k50 : PySem.W.keepIn K (.ref f50) = true)
    {f51 : Addr} {od51 an51 : Option Addr} {sl51 : Array (Option Value)} {oc51 kV51 dc51 pm51 cd51 ct51 : Value}
    (a51 : PySem.W.nsIn K mainGlobals "after_meet" = some (some (.ref f51))) (l51 : K.lookup f51 = some ⟨oc51, od51, .func (PySem.W.fnOf "after_meet" "after_meet" (defArgs s_after_meet) (defBody s_after_meet) (defScope s_after_meet) .none kV51 dc51 pm51 an51 cd51 ct51), sl51⟩) (c51 : PySem.W.codeIn K cd51 "after_meet" = true) (k51 : PySem.W.keepIn K (.ref f51) = true)
    {f52 : Addr} {od52 an52 : Option Addr} {sl52 : Array (Option Value)} {oc52 kV52 dc52 pm52 cd52 ct52 : Value}
    (a52 : PySem.W.nsIn K mainGlobals "news" = some (some (.ref f52))) (l52 : K.lookup f52 = some ⟨oc52, od52, .func (PySem.W.fnOf "news" "news" (defArgs s_news) (defBody s_news) (defScope s_news) .none kV52 dc52 pm52 an52 cd52 ct52), sl52⟩) (c52 : PySem.W.codeIn K cd52 "news" = true) (k52 : PySem.W.keepIn K (.ref f52) = true)
    {f53 : Addr} {od53 an53 : Option Addr} {sl53 : Array (Option Value)} {oc53 kV53 dc53 pm53 cd53 ct53 : Value}
    (a53 : PySem.W.nsIn K mainGlobals "after_hide" = some (some (.ref f53))) (l53 : K.lookup f53 = some ⟨oc53, od53, .func (PySem.W.fnOf "after_hide" "after_hide" (defArgs s_after_hide) (defBody s_after_hide) (defScope s_after_hide) .none kV53 dc53 pm53 an53 cd53 ct53), sl53⟩) (c53 : PySem.W.codeIn K cd53 "after_hide" = true) (k53 : PySem.W.keepIn K (.ref f53) = true)
    {f54 : Addr} {od54 an54 : Option Addr} {sl54 : Array (Option Value)} {oc54 kV54 dc54 pm54 cd54 ct54 : Value}
    (a54 : PySem.W.nsIn K mainGlobals "longer" = some (some (.ref f54))) (l54 : K.lookup f54 = some ⟨oc54, od54, .func (PySem.W.fnOf "longer" "longer" (defArgs s_longer) (defBody s_longer) (defScope s_longer) .none kV54 dc54 pm54 an54 cd54 ct54), sl54⟩) (c54 : PySem.W.codeIn K cd54 "longer" = true) (k54 : PySem.W.keepIn K (.ref f54) = true)
    {f55 : Addr} {od55 an55 : Option Addr} {sl55 : Array (Option Value)} {oc55 kV55 dc55 pm55 cd55 ct55 : Value}
    (a55 : PySem.W.nsIn K mainGlobals "after_change" = some (some (.ref f55))) (l55 : K.lookup f55 = some ⟨oc55, od55, .func (PySem.W.fnOf "after_change" "after_change" (defArgs s_after_change) (defBody s_after_change) (defScope s_after_change) .none kV55 dc55 pm55 an55 cd55 ct55), sl55⟩) (c55 : PySem.W.codeIn K cd55 "after_change" = true) (k55 : PySem.W.keepIn K (.ref f55) = true)
    {f56 : Addr} {od56 an56 : Option Addr} {sl56 : Array (Option Value)} {oc56 kV56 dc56 pm56 cd56 ct56 : Value}
    (a56 : PySem.W.nsIn K mainGlobals "all_led" = some (some (.ref f56))) (l56 : K.lookup f56 = some ⟨oc56, od56, .func (PySem.W.fnOf "all_led" "all_led" (defArgs s_all_led) (defBody s_all_led) (defScope s_all_led) .none kV56 dc56 pm56 an56 cd56 ct56), sl56⟩) (c56 : PySem.W.codeIn K cd56 "all_led" = true) (k56 : PySem.W.keepIn K (.ref f56) = true)
    {f57 : Addr} {od57 an57 : Option Addr} {sl57 : Array (Option Value)} {oc57 kV57 dc57 pm57 cd57 ct57 : Value}
    (a57 : PySem.W.nsIn K mainGlobals "after_come" = some (some (.ref f57))) (l57 : K.lookup f57 = some ⟨oc57, od57, .func (PySem.W.fnOf "after_come" "after_come" (defArgs s_after_come) (defBody s_after_come) (defScope s_after_come) .none kV57 dc57 pm57 an57 cd57 ct57), sl57⟩) (c57 : PySem.W.codeIn K cd57 "after_come" = true) (k57 : PySem.W.keepIn K (.ref f57) = true)
    {f58 : Addr} {od58 an58 : Option Addr} {sl58 : Array (Option Value)} {oc58 kV58 dc58 pm58 cd58 ct58 : Value}
    (a58 : PySem.W.nsIn K mainGlobals "after_go" = some (some (.ref f58))) (l58 : K.lookup f58 = some ⟨oc58, od58, .func (PySem.W.fnOf "after_go" "after_go" (defArgs s_after_go) (defBody s_after_go) (defScope s_after_go) .none kV58 dc58 pm58 an58 cd58 ct58), sl58⟩) (c58 : PySem.W.codeIn K cd58 "after_go" = true) (k58 : PySem.W.keepIn K (.ref f58) = true)
    {f59 : Addr} {od59 an59 : Option Addr} {sl59 : Array (Option Value)} {oc59 kV59 dc59 pm59 cd59 ct59 : Value}
    (a59 : PySem.W.nsIn K mainGlobals "after" = some (some (.ref f59))) (l59 : K.lookup f59 = some ⟨oc59, od59, .func (PySem.W.fnOf "after" "after" (defArgs s_after) (defBody s_after) (defScope s_after) .none kV59 dc59 pm59 an59 cd59 ct59), sl59⟩) (c59 : PySem.W.codeIn K cd59 "after" = true) (k59 : PySem.W.keepIn K (.ref f59) = true)
    {f60 : Addr} {od60 an60 : Option Addr} {sl60 : Array (Option Value)} {oc60 kV60 dc60 pm60 cd60 ct60 : Value}
    (a60 : PySem.W.nsIn K mainGlobals "_law_deck" = some (some (.ref f60))) (l60 : K.lookup f60 = some ⟨oc60, od60, .func (PySem.W.fnOf "_law_deck" "_law_deck" (defArgs s__law_deck) (defBody s__law_deck) (defScope s__law_deck) .none kV60 dc60 pm60 an60 cd60 ct60), sl60⟩) (c60 : PySem.W.codeIn K cd60 "_law_deck" = true) (k60 : PySem.W.keepIn K (.ref f60) = true)
    {f61 : Addr} {od61 an61 : Option Addr} {sl61 : Array (Option Value)} {oc61 kV61 dc61 pm61 cd61 ct61 : Value}
    (a61 : PySem.W.nsIn K mainGlobals "_law_draw" = some (some (.ref f61))) (l61 : K.lookup f61 = some ⟨oc61, od61, .func (PySem.W.fnOf "_law_draw" "_law_draw" (defArgs s__law_draw) (defBody s__law_draw) (defScope s__law_draw) .none kV61 dc61 pm61 an61 cd61 ct61), sl61⟩) (c61 : PySem.W.codeIn K cd61 "_law_draw" = true) (k61 : PySem.W.keepIn K (.ref f61) = true)
    {f62 : Addr} {od62 an62 : Option Addr} {sl62 : Array (Option Value)} {oc62 kV62 dc62 pm62 cd62 ct62 : Value}
    (a62 : PySem.W.nsIn K mainGlobals "_law_names" = some (some (.ref f62))) (l62 : K.lookup f62 = some ⟨oc62, od62, .func (PySem.W.fnOf "_law_names" "_law_names" (defArgs s__law_names) (defBody s__law_names) (defScope s__law_names) .none kV62 dc62 pm62 an62 cd62 ct62), sl62⟩) (c62 : PySem.W.codeIn K cd62 "_law_names" = true) (k62 : PySem.W.keepIn K (.ref f62) = true)
    {f63 : Addr} {od63 an63 : Option Addr} {sl63 : Array (Option Value)} {oc63 kV63 dc63 pm63 cd63 ct63 : Value}
    (a63 : PySem.W.nsIn K mainGlobals "_law_row" = some (some (.ref f63))) (l63 : K.lookup f63 = some ⟨oc63, od63, .func (PySem.W.fnOf "_law_row" "_law_row" (defArgs s__law_row) (defBody s__law_row) (defScope s__law_row) .none kV63 dc63 pm63 an63 cd63 ct63), sl63⟩) (c63 : PySem.W.codeIn K cd63 "_law_row" = true) (k63 : PySem.W.keepIn K (.ref f63) = true)
    {f64 : Addr} {od64 an64 : Option Addr} {sl64 : Array (Option Value)} {oc64 kV64 dc64 pm64 cd64 ct64 : Value}
    (a64 : PySem.W.nsIn K mainGlobals "_law_left" = some (some (.ref f64))) (l64 : K.lookup f64 = some ⟨oc64, od64, .func (PySem.W.fnOf "_law_left" "_law_left" (defArgs s__law_left) (defBody s__law_left) (defScope s__law_left) .none kV64 dc64 pm64 an64 cd64 ct64), sl64⟩) (c64 : PySem.W.codeIn K cd64 "_law_left" = true) (k64 : PySem.W.keepIn K (.ref f64) = true)
    {f65 : Addr} {od65 an65 : Option Addr} {sl65 : Array (Option Value)} {oc65 kV65 dc65 pm65 cd65 ct65 : Value}
    (a65 : PySem.W.nsIn K mainGlobals "_law_plain" = some (some (.ref f65))) (l65 : K.lookup f65 = some ⟨oc65, od65, .func (PySem.W.fnOf "_law_plain" "_law_plain" (defArgs s__law_plain) (defBody s__law_plain) (defScope s__law_plain) .none kV65 dc65 pm65 an65 cd65 ct65), sl65⟩) (c65 : PySem.W.codeIn K cd65 "_law_plain" = true) (k65 : PySem.W.keepIn K (.ref f65) = true)
    {f66 : Addr} {od66 an66 : Option Addr} {sl66 : Array (Option Value)} {oc66 kV66 dc66 pm66 cd66 ct66 : Value}
    (a66 : PySem.W.nsIn K mainGlobals "_law_within" = some (some (.ref f66))) (l66 : K.lookup f66 = some ⟨oc66, od66, .func (PySem.W.fnOf "_law_within" "_law_within" (defArgs s__law_within) (defBody s__law_within) (defScope s__law_within) .none kV66 dc66 pm66 an66 cd66 ct66), sl66⟩) (c66 : PySem.W.codeIn K cd66 "_law_within" = true) (k66 : PySem.W.keepIn K (.ref f66) = true)
    {f67 : Addr} {od67 an67 : Option Addr} {sl67 : Array (Option Value)} {oc67 kV67 dc67 pm67 cd67 ct67 : Value}
    (a67 : PySem.W.nsIn K mainGlobals "_law_made_of" = some (some (.ref f67))) (l67 : K.lookup f67 = some ⟨oc67, od67, .func (PySem.W.fnOf "_law_made_of" "_law_made_of" (defArgs s__law_made_of) (defBody s__law_made_of) (defScope s__law_made_of) .none kV67 dc67 pm67 an67 cd67 ct67), sl67⟩) (c67 : PySem.W.codeIn K cd67 "_law_made_of" = true) (k67 : PySem.W.keepIn K (.ref f67) = true)
    {f68 : Addr} {od68 an68 : Option Addr} {sl68 : Array (Option Value)} {oc68 kV68 dc68 pm68 cd68 ct68 : Value}
    (a68 : PySem.W.nsIn K mainGlobals "_law_rows" = some (some (.ref f68))) (l68 : K.lookup f68 = some ⟨oc68, od68, .func (PySem.W.fnOf "_law_rows" "_law_rows" (defArgs s__law_rows) (defBody s__law_rows) (defScope s__law_rows) .none kV68 dc68 pm68 an68 cd68 ct68), sl68⟩) (c68 : PySem.W.codeIn K cd68 "_law_rows" = true) (k68 : PySem.W.keepIn K (.ref f68) = true)
    {f69 : Addr} {od69 an69 : Option Addr} {sl69 : Array (Option Value)} {oc69 kV69 dc69 pm69 cd69 ct69 : Value}
    (a69 : PySem.W.nsIn K mainGlobals "_law_stand" = some (some (.ref f69))) (l69 : K.lookup f69 = some ⟨oc69, od69, .func (PySem.W.fnOf "_law_stand" "_law_stand" (defArgs s__law_stand) (defBody s__law_stand) (defScope s__law_stand) .none kV69 dc69 pm69 an69 cd69 ct69), sl69⟩) (c69 : PySem.W.codeIn K cd69 "_law_stand" = true) (k69 : PySem.W.keepIn K (.ref f69) = true)
    {f70 : Addr} {od70 an70 : Option Addr} {sl70 : Array (Option Value)} {oc70 kV70 dc70 pm70 cd70 ct70 : Value}
    (a70 : PySem.W.nsIn K mainGlobals "_law_room" = some (some (.ref f70))) (l70 : K.lookup f70 = some ⟨oc70, od70, .func (PySem.W.fnOf "_law_room" "_law_room" (defArgs s__law_room) (defBody s__law_room) (defScope s__law_room) .none kV70 dc70 pm70 an70 cd70 ct70), sl70⟩) (c70 : PySem.W.codeIn K cd70 "_law_room" = true) (k70 : PySem.W.keepIn K (.ref f70) = true)
    {f71 : Addr} {od71 an71 : Option Addr} {sl71 : Array (Option Value)} {oc71 kV71 dc71 pm71 cd71 ct71 : Value}
    (a71 : PySem.W.nsIn K mainGlobals "_law_known" = some (some (.ref f71))) (l71 : K.lookup f71 = some ⟨oc71, od71, .func (PySem.W.fnOf "_law_known" "_law_known" (defArgs s__law_known) (defBody s__law_known) (defScope s__law_known) .none kV71 dc71 pm71 an71 cd71 ct71), sl71⟩) (c71 : PySem.W.codeIn K cd71 "_law_known" = true) (k71 : PySem.W.keepIn K (.ref f71) = true)
    {f72 : Addr} {od72 an72 : Option Addr} {sl72 : Array (Option Value)} {oc72 kV72 dc72 pm72 cd72 ct72 : Value}
    (a72 : PySem.W.nsIn K mainGlobals "_law_aside" = some (some (.ref f72))) (l72 : K.lookup f72 = some ⟨oc72, od72, .func (PySem.W.fnOf "_law_aside" "_law_aside" (defArgs s__law_aside) (defBody s__law_aside) (defScope s__law_aside) .none kV72 dc72 pm72 an72 cd72 ct72), sl72⟩) (c72 : PySem.W.codeIn K cd72 "_law_aside" = true) (k72 : PySem.W.keepIn K (.ref f72) = true)
    {f73 : Addr} {od73 an73 : Option Addr} {sl73 : Array (Option Value)} {oc73 kV73 dc73 pm73 cd73 ct73 : Value}
    (a73 : PySem.W.nsIn K mainGlobals "_law_book" = some (some (.ref f73))) (l73 : K.lookup f73 = some ⟨oc73, od73, .func (PySem.W.fnOf "_law_book" "_law_book" (defArgs s__law_book) (defBody s__law_book) (defScope s__law_book) .none kV73 dc73 pm73 an73 cd73 ct73), sl73⟩) (c73 : PySem.W.codeIn K cd73 "_law_book" = true) (k73 : PySem.W.keepIn K (.ref f73) = true)
    {f74 : Addr} {od74 an74 : Option Addr} {sl74 : Array (Option Value)} {oc74 kV74 dc74 pm74 cd74 ct74 : Value}
    (a74 : PySem.W.nsIn K mainGlobals "_law_told_right" = some (some (.ref f74))) (l74 : K.lookup f74 = some ⟨oc74, od74, .func (PySem.W.fnOf "_law_told_right" "_law_told_right" (defArgs s__law_told_right) (defBody s__law_told_right) (defScope s__law_told_right) .none kV74 dc74 pm74 an74 cd74 ct74), sl74⟩) (c74 : PySem.W.codeIn K cd74 "_law_told_right" = true) (k74 : PySem.W.keepIn K (.ref f74) = true)
    {f75 : Addr} {od75 an75 : Option Addr} {sl75 : Array (Option Value)} {oc75 kV75 dc75 pm75 cd75 ct75 : Value}
    (a75 : PySem.W.nsIn K mainGlobals "_law_none_right" = some (some (.ref f75))) (l75 : K.lookup f75 = some ⟨oc75, od75, .func (PySem.W.fnOf "_law_none_right" "_law_none_right" (defArgs s__law_none_right) (defBody s__law_none_right) (defScope s__law_none_right) .none kV75 dc75 pm75 an75 cd75 ct75), sl75⟩) (c75 : PySem.W.codeIn K cd75 "_law_none_right" = true) (k75 : PySem.W.keepIn K (.ref f75) = true)
    {f76 : Addr} {od76 an76 : Option Addr} {sl76 : Array (Option Value)} {oc76 kV76 dc76 pm76 cd76 ct76 : Value}
    (a76 : PySem.W.nsIn K mainGlobals "law" = some (some (.ref f76))) (l76 : K.lookup f76 = some ⟨oc76, od76, .func (PySem.W.fnOf "law" "law" (defArgs s_law) (defBody s_law) (defScope s_law) .none kV76 dc76 pm76 an76 cd76 ct76), sl76⟩) (c76 : PySem.W.codeIn K cd76 "law" = true) (k76 : PySem.W.keepIn K (.ref f76) = true)
    {f77 : Addr} {od77 an77 : Option Addr} {sl77 : Array (Option Value)} {oc77 kV77 dc77 pm77 cd77 ct77 : Value}
    (a77 : PySem.W.findIn K (.ref LMoment) "__init__" = some (some (.ref f77))) (i77 : PySem.W.isFn K (.ref f77) = true) (l77 : K.lookup f77 = some ⟨oc77, od77, .func (PySem.W.fnOf "__init__" "Moment.__init__" (defArgs s_Moment___init__) (defBody s_Moment___init__) (defScope s_Moment___init__) .none kV77 dc77 pm77 an77 cd77 ct77), sl77⟩) (c77 : PySem.W.codeIn K cd77 "Moment.__init__" = true) (k77 : PySem.W.keepIn K (.ref f77) = true)
    {f78 : Addr} {od78 an78 : Option Addr} {sl78 : Array (Option Value)} {oc78 kV78 dc78 pm78 cd78 ct78 : Value}
    (a78 : PySem.W.findIn K (.ref LBook) "__init__" = some (some (.ref f78))) (i78 : PySem.W.isFn K (.ref f78) = true) (l78 : K.lookup f78 = some ⟨oc78, od78, .func (PySem.W.fnOf "__init__" "Book.__init__" (defArgs s_Book___init__) (defBody s_Book___init__) (defScope s_Book___init__) .none kV78 dc78 pm78 an78 cd78 ct78), sl78⟩) (c78 : PySem.W.codeIn K cd78 "Book.__init__" = true) (k78 : PySem.W.keepIn K (.ref f78) = true)
    {f79 : Addr} {od79 an79 : Option Addr} {sl79 : Array (Option Value)} {oc79 kV79 dc79 pm79 cd79 ct79 : Value}
    (a79 : PySem.W.findIn K (.ref LBook) "__len__" = some (some (.ref f79))) (i79 : PySem.W.isFn K (.ref f79) = true) (l79 : K.lookup f79 = some ⟨oc79, od79, .func (PySem.W.fnOf "__len__" "Book.__len__" (defArgs s_Book___len__) (defBody s_Book___len__) (defScope s_Book___len__) .none kV79 dc79 pm79 an79 cd79 ct79), sl79⟩) (c79 : PySem.W.codeIn K cd79 "Book.__len__" = true) (k79 : PySem.W.keepIn K (.ref f79) = true)
    {f80 : Addr} {od80 an80 : Option Addr} {sl80 : Array (Option Value)} {oc80 kV80 dc80 pm80 cd80 ct80 : Value}
    (a80 : PySem.W.findIn K (.ref LBook) "now" = some (some (.ref f80))) (i80 : PySem.W.isFn K (.ref f80) = true) (l80 : K.lookup f80 = some ⟨oc80, od80, .func (PySem.W.fnOf "now" "Book.now" (defArgs s_Book_now) (defBody s_Book_now) (defScope s_Book_now) .none kV80 dc80 pm80 an80 cd80 ct80), sl80⟩) (c80 : PySem.W.codeIn K cd80 "Book.now" = true) (k80 : PySem.W.keepIn K (.ref f80) = true)
    {f81 : Addr} {od81 an81 : Option Addr} {sl81 : Array (Option Value)} {oc81 kV81 dc81 pm81 cd81 ct81 : Value}
    (a81 : PySem.W.findIn K (.ref LBook) "refuse_amid" = some (some (.ref f81))) (i81 : PySem.W.isFn K (.ref f81) = true) (l81 : K.lookup f81 = some ⟨oc81, od81, .func (PySem.W.fnOf "refuse_amid" "Book.refuse_amid" (defArgs s_Book_refuse_amid) (defBody s_Book_refuse_amid) (defScope s_Book_refuse_amid) .none kV81 dc81 pm81 an81 cd81 ct81), sl81⟩) (c81 : PySem.W.codeIn K cd81 "Book.refuse_amid" = true) (k81 : PySem.W.keepIn K (.ref f81) = true)
    {f82 : Addr} {od82 an82 : Option Addr} {sl82 : Array (Option Value)} {oc82 kV82 dc82 pm82 cd82 ct82 : Value}
    (a82 : PySem.W.findIn K (.ref LBook) "perform" = some (some (.ref f82))) (i82 : PySem.W.isFn K (.ref f82) = true) (l82 : K.lookup f82 = some ⟨oc82, od82, .func (PySem.W.fnOf "perform" "Book.perform" (defArgs s_Book_perform) (defBody s_Book_perform) (defScope s_Book_perform) .none kV82 dc82 pm82 an82 cd82 ct82), sl82⟩) (c82 : PySem.W.codeIn K cd82 "Book.perform" = true) (k82 : PySem.W.keepIn K (.ref f82) = true)
    {f83 : Addr} {od83 an83 : Option Addr} {sl83 : Array (Option Value)} {oc83 kV83 dc83 pm83 cd83 ct83 : Value}
    (a83 : PySem.W.findIn K (.ref LBook) "call" = some (some (.ref f83))) (i83 : PySem.W.isFn K (.ref f83) = true) (l83 : K.lookup f83 = some ⟨oc83, od83, .func (PySem.W.fnOf "call" "Book.call" (defArgs s_Book_call) (defBody s_Book_call) (defScope s_Book_call) .none kV83 dc83 pm83 an83 cd83 ct83), sl83⟩) (c83 : PySem.W.codeIn K cd83 "Book.call" = true) (k83 : PySem.W.keepIn K (.ref f83) = true)
    {f84 : Addr} {od84 an84 : Option Addr} {sl84 : Array (Option Value)} {oc84 kV84 dc84 pm84 cd84 ct84 : Value}
    (a84 : PySem.W.findIn K (.ref LBook) "back" = some (some (.ref f84))) (i84 : PySem.W.isFn K (.ref f84) = true) (l84 : K.lookup f84 = some ⟨oc84, od84, .func (PySem.W.fnOf "back" "Book.back" (defArgs s_Book_back) (defBody s_Book_back) (defScope s_Book_back) .none kV84 dc84 pm84 an84 cd84 ct84), sl84⟩) (c84 : PySem.W.codeIn K cd84 "Book.back" = true) (k84 : PySem.W.keepIn K (.ref f84) = true)
    {f85 : Addr} {od85 an85 : Option Addr} {sl85 : Array (Option Value)} {oc85 kV85 dc85 pm85 cd85 ct85 : Value}
    (a85 : PySem.W.findIn K (.ref LBook) "moment_at" = some (some (.ref f85))) (i85 : PySem.W.isFn K (.ref f85) = true) (l85 : K.lookup f85 = some ⟨oc85, od85, .func (PySem.W.fnOf "moment_at" "Book.moment_at" (defArgs s_Book_moment_at) (defBody s_Book_moment_at) (defScope s_Book_moment_at) .none kV85 dc85 pm85 an85 cd85 ct85), sl85⟩) (c85 : PySem.W.codeIn K cd85 "Book.moment_at" = true) (k85 : PySem.W.keepIn K (.ref f85) = true)
    {f86 : Addr} {od86 an86 : Option Addr} {sl86 : Array (Option Value)} {oc86 kV86 dc86 pm86 cd86 ct86 : Value}
    (a86 : PySem.W.findIn K (.ref LBook) "moment_of" = some (some (.ref f86))) (i86 : PySem.W.isFn K (.ref f86) = true) (l86 : K.lookup f86 = some ⟨oc86, od86, .func (PySem.W.fnOf "moment_of" "Book.moment_of" (defArgs s_Book_moment_of) (defBody s_Book_moment_of) (defScope s_Book_moment_of) .none kV86 dc86 pm86 an86 cd86 ct86), sl86⟩) (c86 : PySem.W.codeIn K cd86 "Book.moment_of" = true) (k86 : PySem.W.keepIn K (.ref f86) = true)
    {f87 : Addr} {od87 an87 : Option Addr} {sl87 : Array (Option Value)} {oc87 kV87 dc87 pm87 cd87 ct87 : Value}
    (a87 : PySem.W.findIn K (.ref LBook) "heard" = some (some (.ref f87))) (i87 : PySem.W.isFn K (.ref f87) = true) (l87 : K.lookup f87 = some ⟨oc87, od87, .func (PySem.W.fnOf "heard" "Book.heard" (defArgs s_Book_heard) (defBody s_Book_heard) (defScope s_Book_heard) .none kV87 dc87 pm87 an87 cd87 ct87), sl87⟩) (c87 : PySem.W.codeIn K cd87 "Book.heard" = true) (k87 : PySem.W.keepIn K (.ref f87) = true)
    {D87 : Addr} (h87 : kV87 = .ref D87) (n87 : PySem.W.nsIn K D87 "at" = some (some .none))
    {f88 : Addr} {od88 an88 : Option Addr} {sl88 : Array (Option Value)} {oc88 kV88 dc88 pm88 cd88 ct88 : Value}
    (a88 : PySem.W.findIn K (.ref LBook) "knows" = some (some (.ref f88))) (i88 : PySem.W.isFn K (.ref f88) = true) (l88 : K.lookup f88 = some ⟨oc88, od88, .func (PySem.W.fnOf "knows" "Book.knows" (defArgs s_Book_knows) (defBody s_Book_knows) (defScope s_Book_knows) .none kV88 dc88 pm88 an88 cd88 ct88), sl88⟩) (c88 : PySem.W.codeIn K cd88 "Book.knows" = true) (k88 : PySem.W.keepIn K (.ref f88) = true)
    {D88 : Addr} (h88 : kV88 = .ref D88) (n88 : PySem.W.nsIn K D88 "at" = some (some .none))
    {f89 : Addr} {od89 an89 : Option Addr} {sl89 : Array (Option Value)} {oc89 kV89 dc89 pm89 cd89 ct89 : Value}
    (a89 : PySem.W.findIn K (.ref LBook) "why" = some (some (.ref f89))) (i89 : PySem.W.isFn K (.ref f89) = true) (l89 : K.lookup f89 = some ⟨oc89, od89, .func (PySem.W.fnOf "why" "Book.why" (defArgs s_Book_why) (defBody s_Book_why) (defScope s_Book_why) .none kV89 dc89 pm89 an89 cd89 ct89), sl89⟩) (c89 : PySem.W.codeIn K cd89 "Book.why" = true) (k89 : PySem.W.keepIn K (.ref f89) = true)
    {D89 : Addr} (h89 : kV89 = .ref D89) (n89 : PySem.W.nsIn K D89 "at" = some (some .none))
    {f90 : Addr} {od90 an90 : Option Addr} {sl90 : Array (Option Value)} {oc90 kV90 dc90 pm90 cd90 ct90 : Value}
    (a90 : PySem.W.findIn K (.ref LBook) "learned" = some (some (.ref f90))) (i90 : PySem.W.isFn K (.ref f90) = true) (l90 : K.lookup f90 = some ⟨oc90, od90, .func (PySem.W.fnOf "learned" "Book.learned" (defArgs s_Book_learned) (defBody s_Book_learned) (defScope s_Book_learned) .none kV90 dc90 pm90 an90 cd90 ct90), sl90⟩) (c90 : PySem.W.codeIn K cd90 "Book.learned" = true) (k90 : PySem.W.keepIn K (.ref f90) = true)
    {f91 : Addr} {od91 an91 : Option Addr} {sl91 : Array (Option Value)} {oc91 kV91 dc91 pm91 cd91 ct91 : Value}
    (a91 : PySem.W.findIn K (.ref LBook) "stand" = some (some (.ref f91))) (i91 : PySem.W.isFn K (.ref f91) = true) (l91 : K.lookup f91 = some ⟨oc91, od91, .func (PySem.W.fnOf "stand" "Book.stand" (defArgs s_Book_stand) (defBody s_Book_stand) (defScope s_Book_stand) .none kV91 dc91 pm91 an91 cd91 ct91), sl91⟩) (c91 : PySem.W.codeIn K cd91 "Book.stand" = true) (k91 : PySem.W.keepIn K (.ref f91) = true)
    {D91 : Addr} (h91 : kV91 = .ref D91) (n91 : PySem.W.nsIn K D91 "at" = some (some .none))
    (z_abs : PySem.W.nsIn K mainGlobals "abs" = some none)
    (z_all : PySem.W.nsIn K mainGlobals "all" = some none)
    (z_bool : PySem.W.nsIn K mainGlobals "bool" = some none)
    (z_enumerate : PySem.W.nsIn K mainGlobals "enumerate" = some none)
    (z_int : PySem.W.nsIn K mainGlobals "int" = some none)
    (z_isinstance : PySem.W.nsIn K mainGlobals "isinstance" = some none)
    (z_len : PySem.W.nsIn K mainGlobals "len" = some none)
    (z_list : PySem.W.nsIn K mainGlobals "list" = some none)
    (z_max : PySem.W.nsIn K mainGlobals "max" = some none)
    (z_range : PySem.W.nsIn K mainGlobals "range" = some none)
    (z_sorted : PySem.W.nsIn K mainGlobals "sorted" = some none)
    (z_str : PySem.W.nsIn K mainGlobals "str" = some none)
    (z_sum : PySem.W.nsIn K mainGlobals "sum" = some none)
    (z_tuple : PySem.W.nsIn K mainGlobals "tuple" = some none)
    (z_zip : PySem.W.nsIn K mainGlobals "zip" = some none)
    {DS : Addr} {esS : Array DictEntry} {nS : Nat} (qS : PySem.W.nsIn K mainGlobals "STEPS" = some (some (.ref DS))) (qD : K.lookup DS = some ⟨.type "dict", none, .dict esS nS, #[]⟩) (qL : PySem.W.KeysLit w.params esS.toList)
    (x_call : PySem.W.nsIn K DS "call" = some (some (.ref f49))) (x_whisper : PySem.W.nsIn K DS "whisper" = some (some (.ref f50))) (x_meet : PySem.W.nsIn K DS "meet" = some (some (.ref f51))) (x_hide : PySem.W.nsIn K DS "hide" = some (some (.ref f53))) (x_change : PySem.W.nsIn K DS "change" = some (some (.ref f55))) (x_come : PySem.W.nsIn K DS "come" = some (some (.ref f57))) (x_go : PySem.W.nsIn K DS "go" = some (some (.ref f58)))
    : ∃ fd : FuncData, (∀ (s : Shared) (v : Value), BindsTo s fd ⟨[v], []⟩ [("_law_script", v)]) ∧ ∀ base : Heap, K.In base → base.Ns mainGlobals mg → FnG l.prog w K mg base CX0 15 fa fd ["_law_script"] (sp_law K) := by
  have e := hfa.symm.trans (PySem.W.mg_of X G a76)
  cases e
  have T : Top K mg := {
    k_Moment := clsN_of X G qaMoment qpMoment qhMoment qoMoment qsMoment qmMoment qkMoment,
    na_Moment_p := noA_of X G qaMoment qnMoment_p,
    na_Moment_n := noA_of X G qaMoment qnMoment_n,
    na_Moment_called := noA_of X G qaMoment qnMoment_called,
    na_Moment_hands := noA_of X G qaMoment qnMoment_hands,
    k_Book := clsN_of X G qaBook qpBook qhBook qoBook qsBook qmBook qkBook,
    na_Book_made := noA_of X G qaBook qnBook_made,
    na_Book_moments := noA_of X G qaBook qnBook_moments,
    na_Book_done := noA_of X G qaBook qnBook_done,
    na_Book_trials := noA_of X G qaBook qnBook_trials,
    na_Book_amid := noA_of X G qaBook qnBook_amid,
    c_LETTERS := ⟨_, PySem.W.mg_of X G qcLETTERS⟩,
    c_DEEDS := ⟨_, PySem.W.mg_of X G qcDEEDS⟩,
    d_Moment___init__ := dfM_of X G qaMoment a77 i77 l77 c77 k77 (fun _ _ _ _ _ _ us hl => match us, hl with | [_, _, _, _, _], _ => rfl),
    d_Book___init__ := dfM_of X G qaBook a78 i78 l78 c78 k78 (fun _ _ _ _ _ _ us hl => match us, hl with | [_, _, _, _], _ => rfl),
    d_Book___len__ := dfM_of X G qaBook a79 i79 l79 c79 k79 (fun _ _ _ _ _ _ us hl => match us, hl with | [_], _ => rfl),
    d_Book_now := dfM_of X G qaBook a80 i80 l80 c80 k80 (fun _ _ _ _ _ _ us hl => match us, hl with | [_], _ => rfl),
    d_Book_refuse_amid := dfM_of X G qaBook a81 i81 l81 c81 k81 (fun _ _ _ _ _ _ us hl => match us, hl with | [_], _ => rfl),
    d_Book_perform := dfM_of X G qaBook a82 i82 l82 c82 k82 (fun _ _ _ _ _ _ us hl => match us, hl with | [_, _], _ => rfl),
    d_Book_call := dfM_of X G qaBook a83 i83 l83 c83 k83 (fun _ _ _ _ _ _ us hl => match us, hl with | [_, _, _], _ => rfl),
    d_Book_back := dfM_of X G qaBook a84 i84 l84 c84 k84 (fun _ _ _ _ _ _ us hl => match us, hl with | [_], _ => rfl),
    d_Book_moment_at := dfM_of X G qaBook a85 i85 l85 c85 k85 (fun _ _ _ _ _ _ us hl => match us, hl with | [_, _], _ => rfl),
    d_Book_moment_of := dfM_of X G qaBook a86 i86 l86 c86 k86 (fun _ _ _ _ _ _ us hl => match us, hl with | [_, _, _, _], _ => rfl),
    d_Book_heard := dfMD_of (n := 2) X G qaBook a87 i87 l87 c87 k87 h87 n87 (fun _ _ _ _ _ _ us hl => match us, hl with | [_, _], _ => ⟨_, _, _, _, _, _, rfl, rfl, rfl⟩),
    d_Book_knows := dfMD_of (n := 3) X G qaBook a88 i88 l88 c88 k88 h88 n88 (fun _ _ _ _ _ _ us hl => match us, hl with | [_, _, _], _ => ⟨_, _, _, _, _, _, rfl, rfl, rfl⟩),
    d_Book_why := dfMD_of (n := 3) X G qaBook a89 i89 l89 c89 k89 h89 n89 (fun _ _ _ _ _ _ us hl => match us, hl with | [_, _, _], _ => ⟨_, _, _, _, _, _, rfl, rfl, rfl⟩),
    d_Book_learned := dfM_of X G qaBook a90 i90 l90 c90 k90 (fun _ _ _ _ _ _ us hl => match us, hl with | [_, _], _ => rfl),
    d_Book_stand := dfMD_of (n := 1) X G qaBook a91 i91 l91 c91 k91 h91 n91 (fun _ _ _ _ _ _ us hl => match us, hl with | [_], _ => ⟨_, _, _, _, _, _, rfl, rfl, rfl⟩),
    b_abs := PySem.W.mg_none_of X G z_abs,
    b_all := PySem.W.mg_none_of X G z_all,
    b_bool := PySem.W.mg_none_of X G z_bool,
    b_enumerate := PySem.W.mg_none_of X G z_enumerate,
    b_int := PySem.W.mg_none_of X G z_int,
    b_isinstance := PySem.W.mg_none_of X G z_isinstance,
    b_len := PySem.W.mg_none_of X G z_len,
    b_list := PySem.W.mg_none_of X G z_list,
    b_max := PySem.W.mg_none_of X G z_max,
    b_range := PySem.W.mg_none_of X G z_range,
    b_sorted := PySem.W.mg_none_of X G z_sorted,
    b_str := PySem.W.mg_none_of X G z_str,
    b_sum := PySem.W.mg_none_of X G z_sum,
    b_tuple := PySem.W.mg_none_of X G z_tuple,
    b_zip := PySem.W.mg_none_of X G z_zip,
    d_is_name := df_of X G a0 l0 c0 k0 (fun _ _ _ _ _ _ us hl => match us, hl with | [_], _ => rfl),
    d_is_rising := df_of X G a1 l1 c1 k1 (fun _ _ _ _ _ _ us hl => match us, hl with | [_], _ => rfl),
    d_are_names := df_of X G a2 l2 c2 k2 (fun _ _ _ _ _ _ us hl => match us, hl with | [_], _ => rfl),
    d_is_number := df_of X G a3 l3 c3 k3 (fun _ _ _ _ _ _ us hl => match us, hl with | [_], _ => rfl),
    d_is_rest := df_of X G a4 l4 c4 k4 (fun _ _ _ _ _ _ us hl => match us, hl with | [_, _], _ => rfl),
    d_contrary := df_of X G a5 l5 c5 k5 (fun _ _ _ _ _ _ us hl => match us, hl with | [_, _], _ => rfl),
    d_is_row := df_of X G a6 l6 c6 k6 (fun _ _ _ _ _ _ us hl => match us, hl with | [_, _, _], _ => rfl),
    d_added := df_of X G a7 l7 c7 k7 (fun _ _ _ _ _ _ us hl => match us, hl with | [_, _, _], _ => rfl),
    d_times := df_of X G a8 l8 c8 k8 (fun _ _ _ _ _ _ us hl => match us, hl with | [_, _, _], _ => rfl),
    d_worth := df_of X G a9 l9 c9 k9 (fun _ _ _ _ _ _ us hl => match us, hl with | [_, _, _], _ => rfl),
    d_made_of := df_of X G a10 l10 c10 k10 (fun _ _ _ _ _ _ us hl => match us, hl with | [_, _, _, _], _ => rfl),
    d_check_hand := df_of X G a11 l11 c11 k11 (fun _ _ _ _ _ _ us hl => match us, hl with | [_, _], _ => rfl),
    d_check_hands := df_of X G a12 l12 c12 k12 (fun _ _ _ _ _ _ us hl => match us, hl with | [_, _, _], _ => rfl),
    d_check_row := df_of X G a13 l13 c13 k13 (fun _ _ _ _ _ _ us hl => match us, hl with | [_, _, _], _ => rfl),
    d_is_noughts := df_of X G a14 l14 c14 k14 (fun _ _ _ _ _ _ us hl => match us, hl with | [_], _ => rfl),
    d_first_place := df_of X G a15 l15 c15 k15 (fun _ _ _ _ _ _ us hl => match us, hl with | [_], _ => rfl),
    d_cleared := df_of X G a16 l16 c16 k16 (fun _ _ _ _ _ _ us hl => match us, hl with | [_, _, _], _ => rfl),
    d_left_of := df_of X G a17 l17 c17 k17 (fun _ _ _ _ _ _ us hl => match us, hl with | [_, _, _], _ => rfl),
    d_widened := df_of X G a18 l18 c18 k18 (fun _ _ _ _ _ _ us hl => match us, hl with | [_, _, _], _ => rfl),
    d_room_of := df_of X G a19 l19 c19 k19 (fun _ _ _ _ _ _ us hl => match us, hl with | [_, _, _], _ => rfl),
    d_within := df_of X G a20 l20 c20 k20 (fun _ _ _ _ _ _ us hl => match us, hl with | [_, _, _], _ => rfl),
    d_first_outside := df_of X G a21 l21 c21 k21 (fun _ _ _ _ _ _ us hl => match us, hl with | [_, _, _], _ => rfl),
    d_inside := df_of X G a22 l22 c22 k22 (fun _ _ _ _ _ _ us hl => match us, hl with | [_, _, _], _ => rfl),
    d_joined := df_of X G a23 l23 c23 k23 (fun _ _ _ _ _ _ us hl => match us, hl with | [_, _, _, _], _ => rfl),
    d_shared := df_of X G a24 l24 c24 k24 (fun _ _ _ _ _ _ us hl => match us, hl with | [_, _, _, _], _ => rfl),
    d_across := df_of X G a25 l25 c25 k25 (fun _ _ _ _ _ _ us hl => match us, hl with | [_, _, _], _ => rfl),
    d_across_at := df_of X G a26 l26 c26 k26 (fun _ _ _ _ _ _ us hl => match us, hl with | [_, _, _, _], _ => rfl),
    d_names_of := df_of X G a27 l27 c27 k27 (fun _ _ _ _ _ _ us hl => match us, hl with | [_], _ => rfl),
    d_room_in := df_of X G a28 l28 c28 k28 (fun _ _ _ _ _ _ us hl => match us, hl with | [_, _], _ => rfl),
    d_aside := df_of X G a29 l29 c29 k29 (fun _ _ _ _ _ _ us hl => match us, hl with | [_, _, _, _, _], _ => rfl),
    d_rooms_of_three := df_of X G a30 l30 c30 k30 (fun _ _ _ _ _ _ us hl => match us, hl with | [_, _, _, _], _ => rfl),
    d_way_of := df_of X G a31 l31 c31 k31 (fun _ _ _ _ _ _ us hl => match us, hl with | [_, _, _, _], _ => rfl),
    d_is_aside := df_of X G a32 l32 c32 k32 (fun _ _ _ _ _ _ us hl => match us, hl with | [_, _, _, _], _ => rfl),
    d_is_barred := df_of X G a33 l33 c33 k33 (fun _ _ _ _ _ _ us hl => match us, hl with | [_, _, _, _], _ => rfl),
    d_call_aside := df_of X G a34 l34 c34 k34 (fun _ _ _ _ _ _ us hl => match us, hl with | [_, _, _, _], _ => rfl),
    d_led := df_of X G a35 l35 c35 k35 (fun _ _ _ _ _ _ us hl => match us, hl with | [_, _, _, _], _ => rfl),
    d_makes := df_of X G a36 l36 c36 k36 (fun _ _ _ _ _ _ us hl => match us, hl with | [_, _, _, _], _ => rfl),
    d_mark := df_of X G a37 l37 c37 k37 (fun _ _ _ _ _ _ us hl => match us, hl with | [_, _], _ => rfl),
    d_makes_hold := df_of X G a38 l38 c38 k38 (fun _ _ _ _ _ _ us hl => match us, hl with | [_, _, _, _, _], _ => rfl),
    d_parted := df_of X G a39 l39 c39 k39 (fun _ _ _ _ _ _ us hl => match us, hl with | [_, _, _, _], _ => rfl),
    d_parted_hold := df_of X G a40 l40 c40 k40 (fun _ _ _ _ _ _ us hl => match us, hl with | [_, _, _, _, _], _ => rfl),
    d_needed := df_of X G a41 l41 c41 k41 (fun _ _ _ _ _ _ us hl => match us, hl with | [_, _, _], _ => rfl),
    d_names_at := df_of X G a42 l42 c42 k42 (fun _ _ _ _ _ _ us hl => match us, hl with | [_], _ => rfl),
    d_heard_at := df_of X G a43 l43 c43 k43 (fun _ _ _ _ _ _ us hl => match us, hl with | [_, _], _ => rfl),
    d_known_at := df_of X G a44 l44 c44 k44 (fun _ _ _ _ _ _ us hl => match us, hl with | [_, _], _ => rfl),
    d_why_at := df_of X G a45 l45 c45 k45 (fun _ _ _ _ _ _ us hl => match us, hl with | [_, _, _], _ => rfl),
    d_stand_at := df_of X G a46 l46 c46 k46 (fun _ _ _ _ _ _ us hl => match us, hl with | [_], _ => rfl),
    d_gained := df_of X G a47 l47 c47 k47 (fun _ _ _ _ _ _ us hl => match us, hl with | [_, _], _ => rfl),
    d_are_first_rows := df_of X G a48 l48 c48 k48 (fun _ _ _ _ _ _ us hl => match us, hl with | [_, _], _ => rfl),
    d_after_call := df_of X G a49 l49 c49 k49 (fun _ _ _ _ _ _ us hl => match us, hl with | [_, _, _], _ => rfl),
    d_after_whisper := df_of X G a50 l50 c50 k50 (fun _ _ _ _ _ _ us hl => match us, hl with | [_, _, _], _ => rfl),
    d_after_meet := df_of X G a51 l51 c51 k51 (fun _ _ _ _ _ _ us hl => match us, hl with | [_, _], _ => rfl),
    d_news := df_of X G a52 l52 c52 k52 (fun _ _ _ _ _ _ us hl => match us, hl with | [_, _, _], _ => rfl),
    d_after_hide := df_of X G a53 l53 c53 k53 (fun _ _ _ _ _ _ us hl => match us, hl with | [_], _ => rfl),
    d_longer := df_of X G a54 l54 c54 k54 (fun _ _ _ _ _ _ us hl => match us, hl with | [_], _ => rfl),
    d_after_change := df_of X G a55 l55 c55 k55 (fun _ _ _ _ _ _ us hl => match us, hl with | [_, _, _], _ => rfl),
    d_all_led := df_of X G a56 l56 c56 k56 (fun _ _ _ _ _ _ us hl => match us, hl with | [_, _, _, _], _ => rfl),
    d_after_come := df_of X G a57 l57 c57 k57 (fun _ _ _ _ _ _ us hl => match us, hl with | [_, _, _], _ => rfl),
    d_after_go := df_of X G a58 l58 c58 k58 (fun _ _ _ _ _ _ us hl => match us, hl with | [_, _], _ => rfl),
    d_after := df_of X G a59 l59 c59 k59 (fun _ _ _ _ _ _ us hl => match us, hl with | [_, _], _ => rfl),
    d__law_deck := df_of X G a60 l60 c60 k60 (fun _ _ _ _ _ _ us hl => match us, hl with | [_], _ => rfl),
    d__law_draw := df_of X G a61 l61 c61 k61 (fun _ _ _ _ _ _ us hl => match us, hl with | [_, _], _ => rfl),
    d__law_names := df_of X G a62 l62 c62 k62 (fun _ _ _ _ _ _ us hl => match us, hl with | [_, _], _ => rfl),
    d__law_row := df_of X G a63 l63 c63 k63 (fun _ _ _ _ _ _ us hl => match us, hl with | [_, _, _], _ => rfl),
    d__law_left := df_of X G a64 l64 c64 k64 (fun _ _ _ _ _ _ us hl => match us, hl with | [_, _, _], _ => rfl),
    d__law_plain := df_of X G a65 l65 c65 k65 (fun _ _ _ _ _ _ us hl => match us, hl with | [_, _], _ => rfl),
    d__law_within := df_of X G a66 l66 c66 k66 (fun _ _ _ _ _ _ us hl => match us, hl with | [_, _, _], _ => rfl),
    d__law_made_of := df_of X G a67 l67 c67 k67 (fun _ _ _ _ _ _ us hl => match us, hl with | [_, _, _, _], _ => rfl),
    d__law_rows := df_of X G a68 l68 c68 k68 (fun _ _ _ _ _ _ us hl => match us, hl with | [_, _, _, _], _ => rfl),
    d__law_stand := df_of X G a69 l69 c69 k69 (fun _ _ _ _ _ _ us hl => match us, hl with | [_, _, _], _ => rfl),
    d__law_room := df_of X G a70 l70 c70 k70 (fun _ _ _ _ _ _ us hl => match us, hl with | [_, _], _ => rfl),
    d__law_known := df_of X G a71 l71 c71 k71 (fun _ _ _ _ _ _ us hl => match us, hl with | [_, _, _], _ => rfl),
    d__law_aside := df_of X G a72 l72 c72 k72 (fun _ _ _ _ _ _ us hl => match us, hl with | [_, _, _], _ => rfl),
    d__law_book := df_of X G a73 l73 c73 k73 (fun _ _ _ _ _ _ us hl => match us, hl with | [_], _ => rfl),
    d__law_told_right := df_of X G a74 l74 c74 k74 (fun _ _ _ _ _ _ us hl => match us, hl with | [_, _, _], _ => rfl),
    d__law_none_right := df_of X G a75 l75 c75 k75 (fun _ _ _ _ _ _ us hl => match us, hl with | [_, _, _], _ => rfl) }
  have gS := PySem.W.mg_of X G qS
  have W : StepsW w K mg := ⟨by rw [adr_of gS]; exact gS, fun x f hf => by
    rw [adr_of gS]
    simp only [List.mem_cons, List.not_mem_nil, or_false, Prod.mk.injEq] at hf
    rcases hf with ⟨rfl, rfl⟩ | ⟨rfl, rfl⟩ | ⟨rfl, rfl⟩ | ⟨rfl, rfl⟩ | ⟨rfl, rfl⟩ | ⟨rfl, rfl⟩ | ⟨rfl, rfl⟩
    · rw [adr_of (PySem.W.mg_of X G a49)]; exact ⟨esS, nS, _, qD, qL, x_call, rfl⟩
    · rw [adr_of (PySem.W.mg_of X G a50)]; exact ⟨esS, nS, _, qD, qL, x_whisper, rfl⟩
    · rw [adr_of (PySem.W.mg_of X G a51)]; exact ⟨esS, nS, _, qD, qL, x_meet, rfl⟩
    · rw [adr_of (PySem.W.mg_of X G a53)]; exact ⟨esS, nS, _, qD, qL, x_hide, rfl⟩
    · rw [adr_of (PySem.W.mg_of X G a55)]; exact ⟨esS, nS, _, qD, qL, x_change, rfl⟩
    · rw [adr_of (PySem.W.mg_of X G a57)]; exact ⟨esS, nS, _, qD, qL, x_come, rfl⟩
    · rw [adr_of (PySem.W.mg_of X G a58)]; exact ⟨esS, nS, _, qD, qL, x_go, rfl⟩⟩
  have F := fun_mk (st := s_law) l76 c76 k76
  exact ⟨PySem.W.fnOf "law" "law" (defArgs s_law) (defBody s_law) (defScope s_law) .none kV76 dc76 pm76 an76 cd76 ct76, fun s v => .of_eq rfl, fun base _ _ => ok_law T W F⟩
end OC
open PySem PySem.W PyProof.Rows
set_option Elab.async false
set_option maxRecDepth 100000 in
set_option maxHeartbeats 0 in
theorem PySem.Challenge.cw_opencalls_k68_whole_asides_in_the_book_holds : PySem.Challenge.rw_opencalls_k68_whole_asides_in_the_book.Holds := by
  w_on; o_law; k_head; (case hw => w_witness2)
  k_fill
  refine OC.walk_ofG (l := PySem.Challenge.rw_opencalls_k68_whole_asides_in_the_book) (n := 63) (k := 15) (x := "_law_script") (CX := fun _ => L2.CX0) (sp := fun w => OC.sp_law _) rfl (by decide) rfl ⟨rfl, by decide, by decide⟩ (fun w h Y => PySem.W.kIn_of Y) ?F (fun _ _ a ns hl _ hS => ⟨a, ns, rfl, hS, hl, fun _ => rfl⟩) (fun _ _ _ _ _ h => h)
  case F =>
    intro w mg fa h KX G hmg
    refine' OC.all_mk KX G hmg ?qaMoment ?qpMoment ?qhMoment ?qoMoment ?qsMoment ?qmMoment ?qkMoment ?qnMoment_p ?qnMoment_n ?qnMoment_called ?qnMoment_hands ?qaBook ?qpBook ?qhBook ?qoBook ?qsBook ?qmBook ?qkBook ?qnBook_made ?qnBook_moments ?qnBook_done ?qnBook_trials ?qnBook_amid ?qcLETTERS ?qcDEEDS ?a0 ?l0 ?c0 ?k0 ?a1 ?l1 ?c1 ?k1 ?a2 ?l2 ?c2 ?k2 ?a3 ?l3 ?c3 ?k3 ?a4 ?l4 ?c4 ?k4 ?a5 ?l5 ?c5 ?k5 ?a6 ?l6 ?c6 ?k6 ?a7 ?l7 ?c7 ?k7 ?a8 ?l8 ?c8 ?k8 ?a9 ?l9 ?c9 ?k9 ?a10 ?l10 ?c10 ?k10 ?a11 ?l11 ?c11 ?k11 ?a12 ?l12 ?c12 ?k12 ?a13 ?l13 ?c13 ?k13 ?a14 ?l14 ?c14 ?k14 ?a15 ?l15 ?c15 ?k15 ?a16 ?l16 ?c16 ?k16 ?a17 ?l17 ?c17 ?k17 ?a18 ?l18 ?c18 ?k18 ?a19 ?l19 ?c19 ?k19 ?a20 ?l20 ?c20 ?k20 ?a21 ?l21 ?c21 ?k21 ?a22 ?l22 ?c22 ?k22 ?a23 ?l23 ?c23 ?k23 ?a24 ?l24 ?c24 ?k24 ?a25 ?l25 ?c25 ?k25 ?a26 ?l26 ?c26 ?k26 ?a27 ?l27 ?c27 ?k27 ?a28 ?l28 ?c28 ?k28 ?a29 ?l29 ?c29 ?k29 ?a30 ?l30 ?c30 ?k30 ?a31 ?l31 ?c31 ?k31 ?a32 ?l32 ?c32 ?k32 ?a33 ?l33 ?c33 ?k33 ?a34 ?l34 ?c34 ?k34 ?a35 ?l35 ?c35 ?k35 ?a36 ?l36 ?c36 ?k36 ?a37 ?l37 ?c37 ?k37 ?a38 ?l38 ?c38 ?k38 ?a39 ?l39 ?c39 ?k39 ?a40 ?l40 ?c40 ?k40 ?a41 ?l41 ?c41 ?k41 ?a42 ?l42 ?c42 ?k42 ?a43 ?l43 ?c43 ?k43 ?a44 ?l44 ?c44 ?k44 ?a45 ?l45 ?c45 ?k45 ?a46 ?l46 ?c46 ?k46 ?a47 ?l47 ?c47 ?k47 ?a48 ?l48 ?c48 ?k48 ?a49 ?l49 ?c49 ?k49 ?a50 ?l50 ?c50 ?k50 ?a51 ?l51 ?c51 ?k51 ?a52 ?l52 ?c52 ?k52 ?a53 ?l53 ?c53 ?k53 ?a54 ?l54 ?c54 ?k54 ?a55 ?l55 ?c55 ?k55 ?a56 ?l56 ?c56 ?k56 ?a57 ?l57 ?c57 ?k57 ?a58 ?l58 ?c58 ?k58 ?a59 ?l59 ?c59 ?k59 ?a60 ?l60 ?c60 ?k60 ?a61 ?l61 ?c61 ?k61 ?a62 ?l62 ?c62 ?k62 ?a63 ?l63 ?c63 ?k63 ?a64 ?l64 ?c64 ?k64 ?a65 ?l65 ?c65 ?k65 ?a66 ?l66 ?c66 ?k66 ?a67 ?l67 ?c67 ?k67 ?a68 ?l68 ?c68 ?k68 ?a69 ?l69 ?c69 ?k69 ?a70 ?l70 ?c70 ?k70 ?a71 ?l71 ?c71 ?k71 ?a72 ?l72 ?c72 ?k72 ?a73 ?l73 ?c73 ?k73 ?a74 ?l74 ?c74 ?k74 ?a75 ?l75 ?c75 ?k75 ?a76 ?l76 ?c76 ?k76 ?a77 ?i77 ?l77 ?c77 ?k77 ?a78 ?i78 ?l78 ?c78 ?k78 ?a79 ?i79 ?l79 ?c79 ?k79 ?a80 ?i80 ?l80 ?c80 ?k80 ?a81 ?i81 ?l81 ?c81 ?k81 ?a82 ?i82 ?l82 ?c82 ?k82 ?a83 ?i83 ?l83 ?c83 ?k83 ?a84 ?i84 ?l84 ?c84 ?k84 ?a85 ?i85 ?l85 ?c85 ?k85 ?a86 ?i86 ?l86 ?c86 ?k86 ?a87 ?i87 ?l87 ?c87 ?k87 ?h87 ?n87 ?a88 ?i88 ?l88 ?c88 ?k88 ?h88 ?n88 ?a89 ?i89 ?l89 ?c89 ?k89 ?h89 ?n89 ?a90 ?i90 ?l90 ?c90 ?k90 ?a91 ?i91 ?l91 ?c91 ?k91 ?h91 ?n91 ?z_abs ?z_all ?z_bool ?z_enumerate ?z_int ?z_isinstance ?z_len ?z_list ?z_max ?z_range ?z_sorted ?z_str ?z_sum ?z_tuple ?z_zip ?qS ?qD ?qL ?x_call ?x_whisper ?x_meet ?x_hide ?x_change ?x_come ?x_go
    (case qaMoment => k_is); (case qpMoment => k_is); (case qhMoment => k_is); (case qoMoment => k_is); (case qsMoment => k_is); (case qmMoment => k_is); (case qkMoment => k_is); (case qnMoment_p => k_is); (case qnMoment_n => k_is); (case qnMoment_called => k_is); (case qnMoment_hands => k_is); (case qaBook => k_is); (case qpBook => k_is); (case qhBook => k_is); (case qoBook => k_is); (case qsBook => k_is); (case qmBook => k_is); (case qkBook => k_is); (case qnBook_made => k_is); (case qnBook_moments => k_is); (case qnBook_done => k_is); (case qnBook_trials => k_is); (case qnBook_amid => k_is); (case qcLETTERS => k_is); (case qcDEEDS => k_is); (case a0 => k_is); (case l0 => k_is); (case c0 => k_is); (case k0 => k_is); (case a1 => k_is); (case l1 => k_is); (case c1 => k_is); (case k1 => k_is); (case a2 => k_is); (case l2 => k_is); (case c2 => k_is); (case k2 => k_is); (case a3 => k_is); (case l3 => k_is); (case c3 => k_is); (case k3 => k_is); (case a4 => k_is); (case l4 => k_is); (case c4 => k_is); (case k4 => k_is); (case a5 => k_is); (case l5 => k_is); (case c5 => k_is); (case k5 => k_is); (case a6 => k_is); (case l6 => k_is); (case c6 => k_is); (case k6 => k_is); (case a7 => k_is); (case l7 => k_is); (case c7 => k_is); (case k7 => k_is); (case a8 => k_is); (case l8 => k_is); (case c8 => k_is); (case k8 => k_is); (case a9 => k_is); (case l9 => k_is); (case c9 => k_is); (case k9 => k_is); (case a10 => k_is); (case l10 => k_is); (case c10 => k_is); (case k10 => k_is); (case a11 => k_is); (case l11 => k_is); (case c11 => k_is); (case k11 => k_is); (case a12 => k_is); (case l12 => k_is); (case c12 => k_is); (case k12 => k_is); (case a13 => k_is); (case l13 => k_is); (case c13 => k_is); (case k13 => k_is); (case a14 => k_is); (case l14 => k_is); (case c14 => k_is); (case k14 => k_is); (case a15 => k_is); (case l15 => k_is); (case c15 => k_is); (case k15 => k_is); (case a16 => k_is); (case l16 => k_is); (case c16 => k_is); (case k16 => k_is); (case a17 => k_is); (case l17 => k_is); (case c17 => k_is); (case k17 => k_is); (case a18 => k_is); (case l18 => k_is); (case c18 => k_is); (case k18 => k_is); (case a19 => k_is); (case l19 => k_is); (case c19 => k_is); (case k19 => k_is); (case a20 => k_is); (case l20 => k_is); (case c20 => k_is); (case k20 => k_is); (case a21 => k_is); (case l21 => k_is); (case c21 => k_is); (case k21 => k_is); (case a22 => k_is); (case l22 => k_is); (case c22 => k_is); (case k22 => k_is); (case a23 => k_is); (case l23 => k_is); (case c23 => k_is); (case k23 => k_is); (case a24 => k_is); (case l24 => k_is); (case c24 => k_is); (case k24 => k_is); (case a25 => k_is); (case l25 => k_is); (case c25 => k_is); (case k25 => k_is); (case a26 => k_is); (case l26 => k_is); (case c26 => k_is); (case k26 => k_is); (case a27 => k_is); (case l27 => k_is); (case c27 => k_is); (case k27 => k_is); (case a28 => k_is); (case l28 => k_is); (case c28 => k_is); (case k28 => k_is); (case a29 => k_is); (case l29 => k_is); (case c29 => k_is); (case k29 => k_is); (case a30 => k_is); (case l30 => k_is); (case c30 => k_is); (case k30 => k_is); (case a31 => k_is); (case l31 => k_is); (case c31 => k_is); (case k31 => k_is); (case a32 => k_is); (case l32 => k_is); (case c32 => k_is); (case k32 => k_is); (case a33 => k_is); (case l33 => k_is); (case c33 => k_is); (case k33 => k_is); (case a34 => k_is); (case l34 => k_is); (case c34 => k_is); (case k34 => k_is); (case a35 => k_is); (case l35 => k_is); (case c35 => k_is); (case k35 => k_is); (case a36 => k_is); (case l36 => k_is); (case c36 => k_is); (case k36 => k_is); (case a37 => k_is); (case l37 => k_is); (case c37 => k_is); (case k37 => k_is); (case a38 => k_is); (case l38 => k_is); (case c38 => k_is); (case k38 => k_is); (case a39 => k_is); (case l39 => k_is); (case c39 => k_is); (case k39 => k_is); (case a40 => k_is); (case l40 => k_is); (case c40 => k_is); (case k40 => k_is); (case a41 => k_is); (case l41 => k_is); (case c41 => k_is); (case k41 => k_is); (case a42 => k_is); (case l42 => k_is); (case c42 => k_is); (case k42 => k_is); (case a43 => k_is); (case l43 => k_is); (case c43 => k_is); (case k43 => k_is); (case a44 => k_is); (case l44 => k_is); (case c44 => k_is); (case k44 => k_is); (case a45 => k_is); (case l45 => k_is); (case c45 => k_is); (case k45 => k_is); (case a46 => k_is); (case l46 => k_is); (case c46 => k_is); (case k46 => k_is); (case a47 => k_is); (case l47 => k_is); (case c47 => k_is); (case k47 => k_is); (case a48 => k_is); (case l48 => k_is); (case c48 => k_is); (case k48 => k_is); (case a49 => k_is); (case l49 => k_is); (case c49 => k_is); (case k49 => k_is); (case a50 => k_is); (case l50 => k_is); (case c50 => k_is); (case k50 => k_is); (case a51 => k_is); (case l51 => k_is); (case c51 => k_is); (case k51 => k_is); (case a52 => k_is); (case l52 => k_is); (case c52 => k_is); (case k52 => k_is); (case a53 => k_is); (case l53 => k_is); (case c53 => k_is); (case k53 => k_is); (case a54 => k_is); (case l54 => k_is); (case c54 => k_is); (case k54 => k_is); (case a55 => k_is); (case l55 => k_is); (case c55 => k_is); (case k55 => k_is); (case a56 => k_is); (case l56 => k_is); (case c56 => k_is); (case k56 => k_is); (case a57 => k_is); (case l57 => k_is); (case c57 => k_is); (case k57 => k_is); (case a58 => k_is); (case l58 => k_is); (case c58 => k_is); (case k58 => k_is); (case a59 => k_is); (case l59 => k_is); (case c59 => k_is); (case k59 => k_is); (case a60 => k_is); (case l60 => k_is); (case c60 => k_is); (case k60 => k_is); (case a61 => k_is); (case l61 => k_is); (case c61 => k_is); (case k61 => k_is); (case a62 => k_is); (case l62 => k_is); (case c62 => k_is); (case k62 => k_is); (case a63 => k_is); (case l63 => k_is); (case c63 => k_is); (case k63 => k_is); (case a64 => k_is); (case l64 => k_is); (case c64 => k_is); (case k64 => k_is); (case a65 => k_is); (case l65 => k_is); (case c65 => k_is); (case k65 => k_is); (case a66 => k_is); (case l66 => k_is); (case c66 => k_is); (case k66 => k_is); (case a67 => k_is); (case l67 => k_is); (case c67 => k_is); (case k67 => k_is); (case a68 => k_is); (case l68 => k_is); (case c68 => k_is); (case k68 => k_is); (case a69 => k_is); (case l69 => k_is); (case c69 => k_is); (case k69 => k_is); (case a70 => k_is); (case l70 => k_is); (case c70 => k_is); (case k70 => k_is); (case a71 => k_is); (case l71 => k_is); (case c71 => k_is); (case k71 => k_is); (case a72 => k_is); (case l72 => k_is); (case c72 => k_is); (case k72 => k_is); (case a73 => k_is); (case l73 => k_is); (case c73 => k_is); (case k73 => k_is); (case a74 => k_is); (case l74 => k_is); (case c74 => k_is); (case k74 => k_is); (case a75 => k_is); (case l75 => k_is); (case c75 => k_is); (case k75 => k_is); (case a76 => k_is); (case l76 => k_is); (case c76 => k_is); (case k76 => k_is); (case a77 => k_is); (case i77 => k_is); (case l77 => k_is); (case c77 => k_is); (case k77 => k_is); (case a78 => k_is); (case i78 => k_is); (case l78 => k_is); (case c78 => k_is); (case k78 => k_is); (case a79 => k_is); (case i79 => k_is); (case l79 => k_is); (case c79 => k_is); (case k79 => k_is); (case a80 => k_is); (case i80 => k_is); (case l80 => k_is); (case c80 => k_is); (case k80 => k_is); (case a81 => k_is); (case i81 => k_is); (case l81 => k_is); (case c81 => k_is); (case k81 => k_is); (case a82 => k_is); (case i82 => k_is); (case l82 => k_is); (case c82 => k_is); (case k82 => k_is); (case a83 => k_is); (case i83 => k_is); (case l83 => k_is); (case c83 => k_is); (case k83 => k_is); (case a84 => k_is); (case i84 => k_is); (case l84 => k_is); (case c84 => k_is); (case k84 => k_is); (case a85 => k_is); (case i85 => k_is); (case l85 => k_is); (case c85 => k_is); (case k85 => k_is); (case a86 => k_is); (case i86 => k_is); (case l86 => k_is); (case c86 => k_is); (case k86 => k_is); (case a87 => k_is); (case i87 => k_is); (case l87 => k_is); (case c87 => k_is); (case k87 => k_is); (case h87 => exact rfl); (case n87 => k_is); (case a88 => k_is); (case i88 => k_is); (case l88 => k_is); (case c88 => k_is); (case k88 => k_is); (case h88 => exact rfl); (case n88 => k_is); (case a89 => k_is); (case i89 => k_is); (case l89 => k_is); (case c89 => k_is); (case k89 => k_is); (case h89 => exact rfl); (case n89 => k_is); (case a90 => k_is); (case i90 => k_is); (case l90 => k_is); (case c90 => k_is); (case k90 => k_is); (case a91 => k_is); (case i91 => k_is); (case l91 => k_is); (case c91 => k_is); (case k91 => k_is); (case h91 => exact rfl); (case n91 => k_is); (case z_abs => k_is); (case z_all => k_is); (case z_bool => k_is); (case z_enumerate => k_is); (case z_int => k_is); (case z_isinstance => k_is); (case z_len => k_is); (case z_list => k_is); (case z_max => k_is); (case z_range => k_is); (case z_sorted => k_is); (case z_str => k_is); (case z_sum => k_is); (case z_tuple => k_is); (case z_zip => k_is); (case qS => k_is); (case qD => k_is); (case qL => exact ⟨⟨_, _, rfl, rfl⟩, ⟨_, _, rfl, rfl⟩, ⟨_, _, rfl, rfl⟩, ⟨_, _, rfl, rfl⟩, ⟨_, _, rfl, rfl⟩, ⟨_, _, rfl, rfl⟩, ⟨_, _, rfl, rfl⟩, trivial⟩); (case x_call => k_is); (case x_whisper => k_is); (case x_meet => k_is); (case x_hide => k_is); (case x_change => k_is); (case x_come => k_is); (case x_go => k_is)
