import PyProof.Rows.All
import Wide.All
import OpenK.AllK
import Wide.FinOn
import HandS.Base
import HandS.Call
import HandS.List
import HandS.Comp
import HandS.Ends
import HandS.Dict
import HandS.Iter
import HandS.Text
import HandS.Words
import HandS.WordsList
import HandS.WordsDict
import HandS.IsInst
import HandS.Zip
import HandS.Conv
import HandS.Walk
import HandS.Style
import HandS.TupAny
import HandS.TupMul
import HandS.EndBits
import HandS.Codes
import KE.GoesMore
import HandS.SortKw
import HandS.TupSets
import KE.KDictDisplayH
import KE.DatumOrd
import HandS.SortOrd
import HandS.Wide
import PyProof.StrLawsRepr
import KE.GoesZip
import HandS.Strs
import KE.SortData
import HandS.Lambda
import KE.DataMinKey
import HandS.EndTab
import KE.KNest
import KE.KDictPairs
import KE.DataMinMax
import HandS.Defaults
import PyProof.Rows.StrMeet
import PyProof.EqKinds
import PyProof.NeKinds
import KE.DataCmp
import HandS.Deep
import HandS.Rev
import PySem.Challenge.RW_opencalls_k35_partings_or_not
set_option Elab.async false
set_option linter.all false
set_option maxRecDepth 100000
namespace OC
open PySem PySem.Spec PyProof.Rows L2

/-! ### defs and their promises, by name -/
structure Df (K : PySem.W.Frag) (mg : Str → Option Value) (x : Str) (st : Stmt) (ps : List Str) : Prop where
  ex : ∃ (f : Addr) (fd : FuncData), Fun K x x st f fd ∧ Binds K fd ps [] ∧ mg x = some (.ref f)
structure Ok (P : Program) (w : World) (K : PySem.W.Frag) (mg : Str → Option Value) (base : Heap) (k : Nat) (x : Str) (ps : List Str) (sp : Sp) : Prop where
  ex : ∃ (f : Addr) (fd : FuncData), FnOk P w K mg base CX0 k f fd ps sp ∧ mg x = some (.ref f) ∧ PySem.W.keepIn K (.ref f) = true ∧ Binds K fd ps []
section
variable {P : Program} {w : World} {K : PySem.W.Frag} {mg : Str → Option Value} {base : Heap}
theorem Df.ok {x : Str} {st : Stmt} {N ps : List Str} {k : Nat} {sp : Sp} (D : Df K mg x st ps) (S : FnScope N ps (defScope st)) (len : ∀ vs H Q E, sp vs H Q E → vs.length = ps.length)
    (hbody : ∀ (f : Addr) (cdv : Value) (A : Around) (outer : List Env) (s : Shared) (H : Hp) (vs : List V) (Q : VK) (E : XK), Room k (A.deeper (envOfC x (defScope st) s.heap.objs.size f cdv)) → sp vs H Q E →
      ∃ t, PSs (cxOf CX0 P w K mg base N x (defScope st) f cdv A outer s H E).nox (defBody st) t ∧ t { nx := fun _ H' => Q .non H', rt := Q } (start N vs) H) : Ok P w K mg base (k + 1) x ps sp := by
  obtain ⟨f, fd, F, b, g⟩ := D.ex
  exact ⟨f, fd, F.ok S len (hbody f), g, F.kp, b⟩
theorem Ok.mono {x : Str} {ps : List Str} {j k : Nat} {sp : Sp} (O : Ok P w K mg base j x ps sp) (h : j ≤ k) : Ok P w K mg base k x ps sp := by
  obtain ⟨f, fd, F, r⟩ := O.ex
  exact ⟨f, fd, F.mono h, r⟩
theorem Ok.imp {x : Str} {ps : List Str} {k : Nat} {sp sp' : Sp} (O : Ok P w K mg base k x ps sp) (h : ∀ vs H Q E, sp' vs H Q E → sp vs H Q E) : Ok P w K mg base k x ps sp' := by
  obtain ⟨f, fd, F, r⟩ := O.ex
  exact ⟨f, fd, F.imp h, r⟩
end
section
variable {X : Cx} {x : Str} {ps : List Str} {k : Nat} {sp : Sp}
theorem pe_callO {e : Expr} {es : List Expr} {t : TA} {p pos : Pos} (O : Ok X.prog X.w X.K X.mg X.base k x ps sp) (hr : Room k X.A) (hg : Gl X x) (ha : PA X (e :: es) t) (hdb : (x == ("__debug__" : Str)) = false := by decide)
    (he : starEach (e :: es) X.env = (false, eval e X.env) :: starEach es X.env := by rfl) (hpl : (backTo pos (starEach es X.env)).any (·.1) = false := by rfl) :
    PE X (.Call (.Name x p) (e :: es) [] pos) (tCall sp [] E0 t) := by
  obtain ⟨f, fd, F, g, kp, b⟩ := O.ex
  exact pe_call F hr hg g kp b .nil pass0 ha hdb he hpl
theorem pe_callO0 {p pos : Pos} (O : Ok X.prog X.w X.K X.mg X.base k x ps sp) (hr : Room k X.A) (hg : Gl X x) (hdb : (x == ("__debug__" : Str)) = false := by decide) :
    PE X (.Call (.Name x p) [] [] pos) (tCall sp [] E0 tNil) := by
  obtain ⟨f, fd, F, g, kp, b⟩ := O.ex
  exact pe_call0 F hr hg g kp b .nil pass0 hdb
end
/-! ### from the head's facts -/
theorem df_of {K : PySem.W.Frag} {h : Heap} {mg : Str → Option Value} {x : Str} {st : Stmt} {ps : List Str} {f : Addr} {oc : Value} {od an : Option Addr} {osl : Array (Option Value)} {kV doc pm cdv ct : Value} (X : K.In h) (G : h.Ns mainGlobals mg)
    (a : PySem.W.nsIn K mainGlobals x = some (some (.ref f)))
    (l : K.lookup f = some ⟨oc, od, .func (PySem.W.fnOf x x (defArgs st) (defBody st) (defScope st) .none kV doc pm an cdv ct), osl⟩)
    (c : PySem.W.codeIn K cdv x = true) (k : PySem.W.keepIn K (.ref f) = true)
    (hb : ∀ (kV doc pm : Value) (an : Option Addr) (cdv ct : Value) (us : List Value), us.length = ps.length → bindArgs (PySem.W.fnOf x x (defArgs st) (defBody st) (defScope st) .none kV doc pm an cdv ct) ⟨us, []⟩ = pure (ps.zip us)) :
    Df K mg x st ps := by
  have F := fun_mk (st := st) l c k
  exact ⟨f, _, F, F.binds hb, PySem.W.mg_of X G a⟩
end OC

set_option Elab.async false
set_option linter.all false
set_option maxRecDepth 100000
namespace OC
open PySem PySem.Spec PyProof.Rows L2

/-! ### kinds of values -/
inductive Kd where
  | non | bl | int | str | lst | tup | dct
  deriving DecidableEq
def Kd.name : Kd → String
  | .non => "NoneType" | .bl => "bool" | .int => "int" | .str => "str" | .lst => "list" | .tup => "tuple" | .dct => "dict"
def KdOf (K : PySem.W.Frag) (H : Hp) (v : V) (k : Kd) : Prop := TyX K H v (.type k.name)
section
variable {K : PySem.W.Frag} {H : Hp}
theorem kd_int (i : Int) : KdOf K H (.int i) .int := .base (.int i)
theorem kd_bl (b : Bool) : KdOf K H (.bl b) .bl := .base (.bl b)
theorem kd_non : KdOf K H .non .non := .base .non
theorem kd_str (x : Str) : KdOf K H (.str x) .str := .base (.str x)
theorem kd_tup {a : Addr} {xs : List V} (h : SqT K H a xs) : KdOf K H (.ref a) .tup := by
  rcases h with (h | ⟨o, h⟩) | ⟨o, its, n, h, c, _⟩
  · exact .base (.tup h)
  · exact .fTuple h
  · exact .kTuple h c
theorem kd_lst {a : Addr} {xs : List V} (h : SqL K H a xs) : KdOf K H (.ref a) .lst := by
  rcases h with (h | ⟨o, h⟩) | ⟨o, its, n, h, c, _⟩
  · exact .base (.lst h)
  · exact .base (.frz h)
  · exact .kList h c
theorem kd_dct {a : Addr} {kvs : List (Key × V)} (h : H a = some (.dK kvs)) : KdOf K H (.ref a) .dct := .base (.dK h)
theorem kit_int (k : Kd) : PySem.W.kitOne K (.type k.name) (.type "int") = some (decide (k = .int) || decide (k = .bl)) := by
  cases k <;> exact kit_ty (by decide +kernel)
theorem kit_bool (k : Kd) : PySem.W.kitOne K (.type k.name) (.type "bool") = some (decide (k = .bl)) := by
  cases k <;> exact kit_ty (by decide +kernel)
theorem kit_tuple (k : Kd) : PySem.W.kitOne K (.type k.name) (.type "tuple") = some (decide (k = .tup)) := by
  cases k <;> exact kit_ty (by decide +kernel)
theorem kit_str (k : Kd) : PySem.W.kitOne K (.type k.name) (.type "str") = some (decide (k = .str)) := by
  cases k <;> exact kit_ty (by decide +kernel)
theorem kd_is_int {v : V} {k : Kd} (h : KdOf K H v k) (e : k = .int) : ∃ i, v = .int i := by
  subst e
  generalize hx : (Value.type (Kd.name .int)) = t at h
  unfold KdOf at h
  rw [hx] at h
  cases h with
  | base h => cases h with
    | int i => exact ⟨i, rfl⟩
    | ins => cases hx
    | _ => exact absurd (Value.type.inj hx) (by decide)
  | _ => exact absurd (Value.type.inj hx) (by decide)
end

/-! ### heaps -/
theorem same_upd {H : Hp} {p : Addr} {o : HO} (h : H p = none) : Same H (upd H p o) := fun b x e => by
  rw [upd_ne (ne_of_none e h)]
  exact e
theorem same_mut {H H' : Hp} {p : Addr} {o : HO} (e : Same H H') (h : H p = none) : Same H (upd H' p o) := fun b x q => by
  rw [upd_ne (ne_of_none q h)]
  exact e b x q
theorem Same.tup {K : PySem.W.Frag} {H H' : Hp} {a : Addr} {xs : List V} (e : Same H H') (h : SqT K H a xs) : SqT K H' a xs := by
  rcases h with (h | ⟨o, h⟩) | h
  · exact .inl (.inl (e _ _ h))
  · exact .inl (.inr ⟨o, e _ _ h⟩)
  · exact .inr h
/-- all but the deck's two lists stays -/
def Kept (d c : Addr) (H H' : Hp) : Prop := ∀ b o, H b = some o → b ≠ d → b ≠ c → H' b = some o
theorem Kept.refl (d c : Addr) (H : Hp) : Kept d c H H := fun _ _ h _ _ => h
theorem Kept.trans {d c : Addr} {H H1 H2 : Hp} (a : Kept d c H H1) (b : Kept d c H1 H2) : Kept d c H H2 := fun x o h n m => b x o (a x o h n m) n m
theorem Kept.of {d c : Addr} {H H' : Hp} (a : Same H H') : Kept d c H H' := fun x o h _ _ => a x o h
/-- the deck: a list of the cells' list and the count of draws -/
structure Deck (H : Hp) (d c : Addr) (t : Int) : Prop where
  hd : H d = some (.lst [.ref c, .int t])
  hc : ∃ cells : List Int, H c = some (.lst (cells.map V.int)) ∧ (∀ x ∈ cells, 0 ≤ x) ∧ cells.length ≤ 63
  ne : c ≠ d
  t0 : 0 ≤ t
theorem Deck.same {H H' : Hp} {d c : Addr} {t : Int} (D : Deck H d c t) (s : Same H H') : Deck H' d c t := by
  obtain ⟨hd, ⟨cells, h1, h2⟩, n, t0⟩ := D
  exact ⟨s _ _ hd, ⟨cells, s _ _ h1, h2⟩, n, t0⟩
theorem Kept.tup {K : PySem.W.Frag} {d c : Addr} {t : Int} {H H' : Hp} {a : Addr} {xs : List V} (D : Deck H d c t) (e : Kept d c H H') (h : SqT K H a xs) : SqT K H' a xs := by
  obtain ⟨hd, ⟨cells, h1, h2⟩, n, t0⟩ := D
  rcases h with (h | ⟨o, h⟩) | h
  · exact .inl (.inl (e _ _ h (fun z => by subst z; rw [hd] at h; cases h) (fun z => by subst z; rw [h1] at h; cases h)))
  · exact .inl (.inr ⟨o, e _ _ h (fun z => by subst z; rw [hd] at h; cases h) (fun z => by subst z; rw [h1] at h; cases h)⟩)
  · exact .inr h
theorem at_int {xs : List Int} {z : Int} (h0 : 0 ≤ z) (h1 : z < (xs.length : Int)) : ∃ x, x ∈ xs ∧ xs[z.toNat]? = some x ∧ atI (xs.map V.int) z = some (.int x) := by
  have hl : z.toNat < xs.length := by omega
  refine ⟨xs[z.toNat], List.getElem_mem hl, List.getElem?_eq_getElem hl, ?_⟩
  refine at_of (j := z.toNat) (by omega) ?_
  rw [List.getElem?_map, List.getElem?_eq_getElem hl]
  rfl
theorem ix_nat {n : Nat} {z : Int} (h0 : 0 ≤ z) (h1 : z < (n : Int)) : ixN n z = some z.toNat := by
  unfold ixN
  rw [if_pos h0, if_pos h1]
theorem in_ints (i : Int) (xs : List Int) : inV (.int i) (xs.map V.int) = decide (i ∈ xs) := by
  unfold inV
  induction xs with
  | nil => simp
  | cons x r ih =>
    rw [List.map_cons, List.any_cons, ih]
    by_cases e : x = i
    · subst e; simp [eqV]
    · have : ¬ i = x := fun q => e q.symm
      simp [eqV, e, this]
end OC

set_option Elab.async false
set_option linter.all false
set_option maxRecDepth 100000
namespace OC
open PySem PySem.Spec PyProof.Rows L2

/-! ### readings by name -/
def rLenQ (K : PySem.W.Frag) : List V → Hp → VK → Prop := fun xs H Q => ∃ p ys, xs = [.ref p] ∧ (SqL K H p ys ∨ SqT K H p ys) ∧ Q (.int ys.length) H
def rListQ (K : PySem.W.Frag) : List V → Hp → VK → Prop := fun xs H Q => ∃ p ys, xs = [.ref p] ∧ (SqL K H p ys ∨ SqT K H p ys) ∧ ∀ l, H l = none → Q (.ref l) (upd H l (.lst ys))
def rTupQ (K : PySem.W.Frag) : List V → Hp → VK → Prop := fun xs H Q => ∃ p ys, xs = [.ref p] ∧ ((SqL K H p ys ∧ ∀ l, H l = none → Q (.ref l) (upd H l (.tup ys))) ∨ (SqT K H p ys ∧ Q (.ref p) H))
/-! ### data kept -/
mutual
theorem dp_same {K : PySem.W.Frag} {H H' : Hp} (e : Same H H') : ∀ (d : PyData) (v : V), Dp K H v d → Dp K H' v d
  | .none, _, h => by cases h; exact .non
  | .bool b, _, h => by cases h; exact .bl b
  | .int i, _, h => by cases h; exact .int i
  | .str x, _, h => by cases h; exact .str x
  | .list ds, _, h => by
    cases h with
    | lst hs ha => exact .lst (e.seq hs) (dpAll_same e ds _ ha)
  | .tuple ds, _, h => by
    cases h with
    | tup hs ha => exact .tup (Same.tup e hs) (dpAll_same e ds _ ha)
  | .dict _, _, h => by cases h
theorem dpAll_same {K : PySem.W.Frag} {H H' : Hp} (e : Same H H') : ∀ (ds : List PyData) (vs : List V), DpAll K H vs ds → DpAll K H' vs ds
  | [], _, h => by cases h; exact .nil
  | d :: ds, _, h => by
    cases h with
    | cons h1 h2 => exact .cons (dp_same e d _ h1) (dpAll_same e ds _ h2)
end
theorem dpAll_len {K : PySem.W.Frag} {H : Hp} : ∀ {vs : List V} {ds : List PyData}, DpAll K H vs ds → vs.length = ds.length
  | _, _, .nil => rfl
  | _, _, .cons _ t => by rw [List.length_cons, List.length_cons, dpAll_len t]
theorem dpAll_get {K : PySem.W.Frag} {H : Hp} : ∀ {vs : List V} {ds : List PyData} {i : Nat} {v : V}, DpAll K H vs ds → vs[i]? = some v → ∃ d, ds[i]? = some d ∧ d ∈ ds ∧ Dp K H v d
  | _, _, i, v, .nil, e => by simp at e
  | _, _, 0, v, .cons h t, e => by
    have e : _ = v := Option.some.inj e
    subst e
    exact ⟨_, rfl, List.mem_cons_self, h⟩
  | _, _, i + 1, v, .cons h t, e => by
    obtain ⟨d, h1, h2, h3⟩ := dpAll_get (i := i) (v := v) t e
    exact ⟨d, h1, List.mem_cons_of_mem _ h2, h3⟩
theorem dpAll_ints {K : PySem.W.Frag} {H : Hp} : ∀ ns : List Int, DpAll K H (ns.map V.int) (ns.map PyData.int)
  | [] => .nil
  | n :: r => .cons (.int n) (dpAll_ints r)
theorem dpAll_nth {K : PySem.W.Frag} {H : Hp} : ∀ {vs : List V} {ds : List PyData}, vs.length = ds.length → (∀ (i : Nat) (v : V) (d : PyData), vs[i]? = some v → ds[i]? = some d → Dp K H v d) → DpAll K H vs ds
  | [], [], _, _ => .nil
  | [], _ :: _, e, _ => by cases e
  | _ :: _, [], e, _ => by cases e
  | v :: vs, d :: ds, e, h => .cons (h 0 v d rfl rfl) (dpAll_nth (Nat.succ.inj e) fun i v d h1 h2 => h (i + 1) v d h1 h2)

/-! ### any thing, with dicts: its kind -/
def keyD : Key → PyData
  | .inl i => .int i
  | .inr x => .str x
def flD : V → PyData
  | .bl b => .bool b | .int i => .int i | .str x => .str x | _ => .none
def flOk : V → Bool
  | .non => true | .bl _ => true | .int _ => true | .str _ => true | _ => false
mutual
inductive Rep (K : PySem.W.Frag) (H : Hp) (bad : Addr → Prop) : V → PyData → Prop
  | non : Rep K H bad .non .none
  | bl (b : Bool) : Rep K H bad (.bl b) (.bool b)
  | int (i : Int) : Rep K H bad (.int i) (.int i)
  | str (x : Str) : Rep K H bad (.str x) (.str x)
  | lst {a : Addr} {xs : List V} {ds : List PyData} : H a = some (.lst xs) → ¬ bad a → RepAll K H bad xs ds → Rep K H bad (.ref a) (.list ds)
  | tup {a : Addr} {xs : List V} {ds : List PyData} : SqT K H a xs → RepAll K H bad xs ds → Rep K H bad (.ref a) (.tuple ds)
  | dct {a : Addr} {kvs : List (Key × V)} : H a = some (.dK kvs) → (kvs.all fun p => flOk p.2) = true → Rep K H bad (.ref a) (.dict (kvs.map fun p => (keyD p.1, flD p.2)))
inductive RepAll (K : PySem.W.Frag) (H : Hp) (bad : Addr → Prop) : List V → List PyData → Prop
  | nil : RepAll K H bad [] []
  | cons {v : V} {vs : List V} {d : PyData} {ds : List PyData} : Rep K H bad v d → RepAll K H bad vs ds → RepAll K H bad (v :: vs) (d :: ds)
end
def kdOf : PyData → Kd
  | .none => .non | .bool _ => .bl | .int _ => .int | .str _ => .str | .list _ => .lst | .tuple _ => .tup | .dict _ => .dct
section
variable {K : PySem.W.Frag} {H : Hp} {bad : Addr → Prop}
theorem Rep.kd : ∀ {v : V} {d : PyData}, Rep K H bad v d → KdOf K H v (kdOf d)
  | _, _, .non => kd_non
  | _, _, .bl b => kd_bl b
  | _, _, .int i => kd_int i
  | _, _, .str x => kd_str x
  | _, _, .lst h _ _ => kd_lst (.inl (.inl h))
  | _, _, .tup h _ => kd_tup h
  | _, _, .dct h _ => kd_dct h
theorem repAll_len : ∀ {vs : List V} {ds : List PyData}, RepAll K H bad vs ds → vs.length = ds.length
  | _, _, .nil => rfl
  | _, _, .cons _ t => by rw [List.length_cons, List.length_cons, repAll_len t]
theorem repAll_get : ∀ {vs : List V} {ds : List PyData} {i : Nat} {v : V}, RepAll K H bad vs ds → vs[i]? = some v → ∃ d, ds[i]? = some d ∧ d ∈ ds ∧ Rep K H bad v d
  | _, _, i, v, .nil, e => by simp at e
  | _, _, 0, v, .cons h t, e => by
    have e : _ = v := Option.some.inj e
    subst e
    exact ⟨_, rfl, List.mem_cons_self, h⟩
  | _, _, i + 1, v, .cons h t, e => by
    obtain ⟨d, h1, h2, h3⟩ := repAll_get (i := i) (v := v) t e
    exact ⟨d, h1, List.mem_cons_of_mem _ h2, h3⟩
theorem repAll_append : ∀ {xs ys : List V} {ds es : List PyData}, RepAll K H bad xs ds → RepAll K H bad ys es → RepAll K H bad (xs ++ ys) (ds ++ es)
  | _, _, _, _, .nil, h => h
  | _, _, _, _, .cons h t, g => .cons h (repAll_append t g)
theorem repAll_ints : ∀ ns : List Int, RepAll K H bad (ns.map V.int) (ns.map PyData.int)
  | [] => .nil
  | n :: r => .cons (.int n) (repAll_ints r)
end
/-! ### tuples stay -/
def Tk (H H' : Hp) : Prop := ∀ (K : PySem.W.Frag) (a : Addr) (xs : List V), SqT K H a xs → SqT K H' a xs
theorem Tk.refl (H : Hp) : Tk H H := fun _ _ _ h => h
theorem Tk.trans {H H1 H2 : Hp} (a : Tk H H1) (b : Tk H1 H2) : Tk H H2 := fun K x xs h => b K x xs (a K x xs h)
theorem Tk.of {H H' : Hp} (s : Same H H') : Tk H H' := fun _ _ _ h => Same.tup s h
theorem Tk.kept {d c : Addr} {t : Int} {H H' : Hp} (D : Deck H d c t) (k : Kept d c H H') : Tk H H' := fun _ _ _ h => Kept.tup D k h
theorem Tk.mut {H H' : Hp} {D : Addr} {xs ys : List V} (k : Tk H H') (h : H' D = some (.lst xs)) : Tk H (upd H' D (.lst ys)) := fun K a zs q => by
  rcases k K a zs q with (q | ⟨o, q⟩) | q
  · refine .inl (.inl ?_)
    rw [upd_ne (fun z => by subst z; rw [h] at q; cases q)]
    exact q
  · refine .inl (.inr ⟨o, ?_⟩)
    rw [upd_ne (fun z => by subst z; rw [h] at q; cases q)]
    exact q
  · exact .inr q
theorem Tk.new {H H' : Hp} {D : Addr} {o : HO} (k : Tk H H') (h : H' D = none) : Tk H (upd H' D o) := k.trans (Tk.of (same_upd h))
/-- what stays of things: tuples and dicts all, lists but the bad ones -/
structure Stays (bad : Addr → Prop) (H H' : Hp) : Prop where
  t : Tk H H'
  d : ∀ a kvs, H a = some (.dK kvs) → H' a = some (.dK kvs)
  l : ∀ a xs, H a = some (.lst xs) → ¬ bad a → H' a = some (.lst xs)
theorem Stays.of {bad : Addr → Prop} {H H' : Hp} (s : Same H H') : Stays bad H H' := ⟨Tk.of s, fun _ _ h => s _ _ h, fun _ _ h _ => s _ _ h⟩
theorem Stays.trans {bad : Addr → Prop} {H H1 H2 : Hp} (a : Stays bad H H1) (b : Stays bad H1 H2) : Stays bad H H2 := ⟨a.t.trans b.t, fun x y h => b.d x y (a.d x y h), fun x y h n => b.l x y (a.l x y h n) n⟩
theorem Stays.kept {d c : Addr} {t : Int} {H H' : Hp} (D : Deck H d c t) (k : Kept d c H H') : Stays (fun a => a = d ∨ a = c) H H' := by
  refine ⟨Tk.kept D k, fun a xs h => k a _ h (fun z => ?_) (fun z => ?_), fun a xs h nb => k a _ h (fun z => nb (.inl z)) (fun z => nb (.inr z))⟩
  · subst z; rw [D.hd] at h; cases h
  · obtain ⟨cells, h1, _⟩ := D.hc
    subst z; rw [h1] at h; cases h
mutual
theorem rep_stays {K : PySem.W.Frag} {bad : Addr → Prop} {H H' : Hp} (e : Stays bad H H') : ∀ (d : PyData) (v : V), Rep K H bad v d → Rep K H' bad v d
  | .none, _, h => by cases h; exact .non
  | .bool b, _, h => by cases h; exact .bl b
  | .int i, _, h => by cases h; exact .int i
  | .str x, _, h => by cases h; exact .str x
  | .list ds, _, h => by
    cases h with
    | lst hs hb ha => exact .lst (e.l _ _ hs hb) hb (repAll_stays e ds _ ha)
  | .tuple ds, _, h => by
    cases h with
    | tup hs ha => exact .tup (e.t _ _ _ hs) (repAll_stays e ds _ ha)
  | .dict _, _, h => by
    cases h with
    | dct hs hf => exact .dct (e.d _ _ hs) hf
theorem repAll_stays {K : PySem.W.Frag} {bad : Addr → Prop} {H H' : Hp} (e : Stays bad H H') : ∀ (ds : List PyData) (vs : List V), RepAll K H bad vs ds → RepAll K H' bad vs ds
  | [], _, h => by cases h; exact .nil
  | d :: ds, _, h => by
    cases h with
    | cons h1 h2 => exact .cons (rep_stays e d _ h1) (repAll_stays e ds _ h2)
end

/-! ### zip of two tuples, walked -/
theorem walk_zipT {K : PySem.W.Frag} {a b : Addr} {xs ys : List V} {n : Nat} (hn : n = min xs.length ys.length) : Walk (RZ.ItzT K a b) n (fun H => SqT K H a xs ∧ SqT K H b ys) (YPair (fun i => xs[i]?) (fun i => ys[i]?)) where
  goes i H hi q := by
    have hx : i < xs.length := by rw [hn] at hi; exact Nat.lt_of_lt_of_le hi (Nat.min_le_left _ _)
    have hy : i < ys.length := by rw [hn] at hi; exact Nat.lt_of_lt_of_le hi (Nat.min_le_right _ _)
    exact ⟨xs, ys, _, _, q.1, q.2, List.getElem?_eq_getElem hx, List.getElem?_eq_getElem hy⟩
  stops H q := ⟨xs, ys, q.1, q.2, by rw [hn]; omega⟩
  yields i H v H' _ q y := by
    obtain ⟨T, x, z, ev, nT, eH, gx, gz⟩ := y
    exact ⟨T, x, z, ev, nT, eH, gx xs q.1, gz ys q.2⟩

/-! ### the same: two things of one data -/
/-- a thing that is no tuple -/
def Sc : PyData → Prop
  | .none => True | .bool _ => True | .int _ => True | .str _ => True | _ => False
def Lv (L : PyData → Prop) (d : PyData) : Prop := Sc d ∨ ∃ ds, d = .tuple ds ∧ ds.length ≤ 1000 ∧ ∀ x ∈ ds, L x
def sp_same (K : PySem.W.Frag) (L : PyData → Prop) : Sp := fun vs H Q _ => ∃ (v u : V) (d : PyData), vs = [v, u] ∧ Dp K H v d ∧ Dp K H u d ∧ L d ∧ ∀ H', Same H H' → Q (.bl true) H'
/-- no call of it is promised anything -/
theorem ok_never {P : Program} {w : World} {K : PySem.W.Frag} {mg : Str → Option Value} {base : Heap} {x : Str} {st : Stmt} {N ps : List Str} (D : Df K mg x st ps) (S : FnScope N ps (defScope st)) (L : PyData → Prop) (hL : ∀ d, ¬ L d) (hp : ps.length = 2) : Ok P w K mg base 1 x ps (sp_same K L) :=
  D.ok S (fun vs H Q E h => by obtain ⟨v, u, d, rfl, _⟩ := h; exact hp.symm) fun f cdv A outer s H vs Q E hr h => by
    obtain ⟨v, u, d, _, _, _, h, _⟩ := h
    exact (hL d h).elim
/-- the kind of data -/
theorem dp_kd {K : PySem.W.Frag} {H : Hp} : ∀ {v : V} {d : PyData}, Dp K H v d → KdOf K H v (kdOf d)
  | _, _, .non => kd_non
  | _, _, .bl b => kd_bl b
  | _, _, .int i => kd_int i
  | _, _, .str x => kd_str x
  | _, _, .lst h _ => kd_lst h
  | _, _, .tup h _ => kd_tup h
end OC

set_option Elab.async false
set_option linter.all false
set_option maxRecDepth 100000
set_option maxHeartbeats 2000000
namespace OC
open PySem PySem.Spec PyProof.Rows L2
/-! ### a tuple taken once is itself -/
theorem tuple_mul1 (l : Addr) (its : Array Value) (m : Nat) (od : Option Addr) (so : Array (Option Value)) (u : Tok) :
    Meets (Builtin.«tuple.__mul__» ⟨[.ref l, .int 1 u], []⟩) (fun _ R s => s.heap.get? l = some { cls := .type "tuple", dict := od, data := .seq its m, slots := so } ∧ R (.ok (.ret (Value.ref l))) s) := by
  refine .of_wp fun prog w A R s hh => ?_
  obtain ⟨hp, g, d, tk, os⟩ := s
  obtain ⟨hl, hR⟩ := hh
  have fi := AutoSeq1.idx_int
  have c0 : (decide ((1 : Int) < -(2 ^ 63)) || decide ((1 : Int) ≥ 2 ^ 63)) = false := by decide
  have c1 : (its.isEmpty || (1 : Int) == 1) = true := by simp
  wp_walk using wpAny_loadPart' hl
  exact ⟨_, rfl, hR⟩
/-- t * n: a new tuple, or for n = 1 the same -/
def rRepA (K : PySem.W.Frag) : R2 := fun x y H Q => ∃ l k xs, x = .ref l ∧ y = .int k ∧ SqT K H l xs ∧ xs ≠ [] ∧ 1 ≤ k ∧ k ≤ 1000 ∧ xs.length ≤ 1000 ∧ (k = 1 → Q (.ref l) H) ∧ (2 ≤ k → ∀ p, H p = none → Q (.ref p) (upd H p (.tup (List.replicate k.toNat xs).flatten)))
theorem op_repA {X : Cx} : OpR X (binaryOp .Mult) (rRepA X.K) := by
  intro pins s σ H x y v u Q I rx ry h
  obtain ⟨l, k, xs, ex, ey, hT, hne, h1, h2, hz, q1, q2⟩ := h
  by_cases hk : k = 1
  · subst hk ex ey
    have q := q1 rfl
    cases rx
    obtain ⟨t, rfl⟩ := ry
    obtain ⟨its, r, ⟨⟨cls, dd, data, sl⟩, ho, hc, n, hd⟩, hs⟩ := I.tuple hT
    simp only at hc hd
    subst hc hd
    refine wpAny_binaryOp_repeat_ref (T := "tuple") (U := "int") (by decide) ⟨_, ho, rfl⟩ (fun s' => typeIs_int s' 1 t) noFill_tuple_mul F.fills_int_mul F.slot_int_rmul repeat_tuple F.slot_int_index.lookup ?_
    refine call_meets F.slot_int_rmul (typeIs_int s 1 t) F.entry_int_rmul (F.args_int_rmul_2 _ _) (int_rmul_tuple 1 t l its.toArray n dd sl) ⟨ho, rfl, ⟨_, ho, rfl⟩, ?_⟩
    exact call_meets F.slot_tuple_mul ⟨_, ho, rfl⟩ F.entry_tuple_mul (F.args_tuple_mul_2 _ _) (tuple_mul1 l its.toArray n dd sl t) ⟨ho, .ref l, H, I, rfl, q⟩
  · exact op_repT pins s σ H x y v u Q I rx ry ⟨l, k, xs, ex, ey, hT, hne, by omega, h2, hz, q2 (by omega)⟩
/-- the same, whichever tuple it is -/
def rRepB (K : PySem.W.Frag) : R2 := fun x y H Q => ∃ l k xs, x = .ref l ∧ y = .int k ∧ SqT K H l xs ∧ xs ≠ [] ∧ 1 ≤ k ∧ k ≤ 1000 ∧ xs.length ≤ 1000 ∧ ∀ p H', Same H H' → SqT K H' p (List.replicate k.toNat xs).flatten → Q (.ref p) H'
theorem op_repB {X : Cx} : OpR X (binaryOp .Mult) (rRepB X.K) := by
  intro pins s σ H x y v u Q I rx ry h
  obtain ⟨l, k, xs, ex, ey, hT, hne, h1, h2, hz, q⟩ := h
  refine op_repA pins s σ H x y v u Q I rx ry ⟨l, k, xs, ex, ey, hT, hne, h1, h2, hz, fun hk => q l H (Same.refl H) ?_, fun _ p np => q p _ (same_upd np) (.inl (.inl upd_same))⟩
  subst hk
  rw [show ((1 : Int).toNat) = 1 from rfl, List.replicate_one, List.flatten_cons, List.flatten_nil, List.append_nil]
  exact hT
theorem rep_int (n : Nat) (x : Int) : (List.replicate n [V.int x]).flatten = (List.replicate n x).map V.int := by
  induction n with
  | zero => rfl
  | succ n ih => rw [List.replicate_succ, List.flatten_cons, ih, List.replicate_succ]; rfl
end OC

set_option Elab.async false
set_option linter.all false
set_option maxRecDepth 100000
namespace OC
open PySem PySem.Spec PyProof.Rows L2

theorem new_of {H H' : Hp} {p : Addr} {o : HO} (h : upd H p o = H') (n : H p = none) : Same H H' ∧ H' p = some o := by
  subst h
  exact ⟨same_upd n, upd_same⟩
/-- a name that holds a list or a tuple, walked while G' holds -/
def iSeqV (K : PySem.W.Frag) (i : Nat) : TI := fun σ H R => ∃ (a : Addr) (xs : List V) (G' : Hp → Prop), σ[i]? = some (some (.ref a)) ∧ G' H ∧ ((∀ H', G' H' → SqL K H' a xs) ∨ (∀ H', G' H' → SqT K H' a xs)) ∧ ∀ J, Walk J xs.length G' (YAt xs) → R J H
theorem pi_seqv {X : Cx} {tg : Expr} {x : Str} {pos : Pos} (i : Nat) (he : PE X (.Name x pos) (tVar i)) : PI X tg (.Name x pos) (iSeqV X.K i) := by
  refine ⟨fun pins s σ H R I h => ?_⟩
  obtain ⟨a, xs, G', hs, hg, hq, r⟩ := h
  rcases hq with hq | hq
  · exact (pi_list he).run pins s σ H R I ⟨.ref a, hs, a, rfl, ⟨xs, hq H hg⟩, r _ (walk_list.mono hq fun _ _ _ _ _ _ y => y)⟩
  · exact (pi_tup he).run pins s σ H R I ⟨.ref a, hs, a, rfl, ⟨xs, hq H hg⟩, r _ (walk_tup.mono hq fun _ _ _ _ _ _ y => y)⟩
theorem sz1000 {n : Nat} (h : n ≤ 1000) : n ≤ sizeLine := Nat.le_of_lt (small1000 h)

mutual
def noL : PyData → Bool
  | .none => true | .bool _ => true | .int _ => true | .str _ => true | .list _ => false | .tuple ds => noLAll ds | .dict _ => false
def noLAll : List PyData → Bool
  | [] => true
  | d :: ds => noL d && noLAll ds
end
mutual
theorem dp_tk {K : PySem.W.Frag} {H H' : Hp} (e : Tk H H') : ∀ (d : PyData) (v : V), noL d = true → Dp K H v d → Dp K H' v d
  | .none, _, _, h => by cases h; exact .non
  | .bool b, _, _, h => by cases h; exact .bl b
  | .int i, _, _, h => by cases h; exact .int i
  | .str x, _, _, h => by cases h; exact .str x
  | .list ds, _, n, h => by simp [noL] at n
  | .tuple ds, _, n, h => by
    cases h with
    | tup hs ha => exact .tup (e K _ _ hs) (dpAll_tk e ds _ (by simpa [noL] using n) ha)
  | .dict _, _, _, h => by cases h
theorem dpAll_tk {K : PySem.W.Frag} {H H' : Hp} (e : Tk H H') : ∀ (ds : List PyData) (vs : List V), noLAll ds = true → DpAll K H vs ds → DpAll K H' vs ds
  | [], _, _, h => by cases h; exact .nil
  | d :: ds, _, n, h => by
    have n' : noL d = true ∧ noLAll ds = true := by simpa [noLAll] using n
    cases h with
    | cons h1 h2 => exact .cons (dp_tk e d _ n'.1 h1) (dpAll_tk e ds _ n'.2 h2)
end
/-! ### rows as data -/
def rowD (r : List Int) : PyData := .tuple (r.map PyData.int)
theorem noL_ints : ∀ r : List Int, noLAll (r.map PyData.int) = true
  | [] => by simp [noLAll]
  | n :: r => by simp [noLAll, noL, noL_ints r]
theorem noL_row (r : List Int) : noL (rowD r) = true := by
  unfold rowD
  rw [noL]
  exact noL_ints r
theorem noL_rows : ∀ rs : List (List Int), noLAll (rs.map rowD) = true
  | [] => by simp [noLAll]
  | r :: rs => by simp [noLAll, noL_row, noL_rows rs]
theorem lay_ints : ∀ ns : List Int, PyData.canLayAll0 (ns.map PyData.int) = true
  | [] => by simp only [List.map_nil, PyData.canLayAll0]
  | n :: r => by simp only [List.map_cons, PyData.canLayAll0, PyData.canLay0, lay_ints r, Bool.and_self]
theorem depth_ints : ∀ ns : List Int, PyData.depthAll (ns.map PyData.int) = 0
  | [] => by simp only [List.map_nil, PyData.depthAll]
  | n :: r => by simp only [List.map_cons, PyData.depthAll, PyData.depth, depth_ints r, Nat.max_self]
theorem lay_rows : ∀ rs : List (List Int), PyData.canLayAll0 (rs.map rowD) = true
  | [] => by simp only [List.map_nil, PyData.canLayAll0]
  | r :: rs => by simp only [List.map_cons, PyData.canLayAll0, rowD, PyData.canLay0, lay_ints r, lay_rows rs, Bool.and_self]
theorem depth_rows : ∀ rs : List (List Int), PyData.depthAll (rs.map rowD) ≤ 1
  | [] => by simp only [List.map_nil, PyData.depthAll]; omega
  | r :: rs => by
    have := depth_rows rs
    simp only [List.map_cons, PyData.depthAll, rowD, PyData.depth, depth_ints r]
    omega
theorem shaped_ints (ns : List Int) : SeqAt.shaped (.list (ns.map PyData.int)) = true := by
  unfold SeqAt.shaped
  simp only [PyData.canLay0, lay_ints, PyData.depth, depth_ints, Bool.true_and]
  rfl
theorem shaped_row (ns : List Int) : SeqAt.shaped (rowD ns) = true := by
  unfold SeqAt.shaped rowD
  simp only [PyData.canLay0, lay_ints, PyData.depth, depth_ints, Bool.true_and]
  rfl
theorem shaped_lrows (rs : List (List Int)) : SeqAt.shaped (.list (rs.map rowD)) = true := by
  unfold SeqAt.shaped
  have := depth_rows rs
  simp only [PyData.canLay0, lay_rows, PyData.depth, Bool.true_and]
  exact decide_eq_true (by omega)
theorem shaped_trows (rs : List (List Int)) : SeqAt.shaped (.tuple (rs.map rowD)) = true := by
  unfold SeqAt.shaped
  have := depth_rows rs
  simp only [PyData.canLay0, lay_rows, PyData.depth, Bool.true_and]
  exact decide_eq_true (by omega)
theorem eqv_nil (ds : List PyData) : PyData.eqv (.list ds) (.list []) = decide (ds = []) := by
  cases ds with
  | nil => simp [PyData.eqv, PyData.eqvAll]
  | cons n r => simp [PyData.eqv, PyData.eqvAll]
theorem dpAll_int_inv {K : PySem.W.Frag} {H : Hp} : ∀ {xs : List V} {r : List Int}, DpAll K H xs (r.map PyData.int) → xs = r.map V.int
  | _, [], h => by cases h; rfl
  | _, n :: r, h => by
    cases h with
    | cons h1 h2 =>
      cases h1
      rw [dpAll_int_inv h2]
      rfl
theorem dp_row {K : PySem.W.Frag} {H : Hp} {v : V} {r : List Int} (h : Dp K H v (rowD r)) : ∃ a, v = .ref a ∧ SqT K H a (r.map V.int) := by
  unfold rowD at h
  cases h with
  | tup hs ha => exact ⟨_, rfl, (dpAll_int_inv ha) ▸ hs⟩
theorem row_dp {K : PySem.W.Frag} {H : Hp} {a : Addr} {r : List Int} (h : SqT K H a (r.map V.int)) : Dp K H (.ref a) (rowD r) := .tup h (dpAll_ints r)
theorem dpAll_append {K : PySem.W.Frag} {H : Hp} : ∀ {xs ys : List V} {ds es : List PyData}, DpAll K H xs ds → DpAll K H ys es → DpAll K H (xs ++ ys) (ds ++ es)
  | _, _, _, _, .nil, h => h
  | _, _, _, _, .cons h t, g => .cons h (dpAll_append t g)
theorem dpAll_row {K : PySem.W.Frag} {H : Hp} {vs : List V} {rs : List (List Int)} {i : Nat} {v : V} (h : DpAll K H vs (rs.map rowD)) (e : vs[i]? = some v) : ∃ a r, v = .ref a ∧ rs[i]? = some r ∧ r ∈ rs ∧ SqT K H a (r.map V.int) := by
  obtain ⟨d, g, _, hd⟩ := dpAll_get h e
  rw [List.getElem?_map] at g
  cases hr : rs[i]? with
  | none => rw [hr] at g; cases g
  | some r =>
    rw [hr] at g
    have ed : d = rowD r := (Option.some.inj g).symm
    subst ed
    obtain ⟨a, rfl, ha⟩ := dp_row hd
    exact ⟨a, r, rfl, rfl, List.mem_of_getElem? hr, ha⟩
/-- rests below p -/
def RowOk (p : Int) (r : List Int) : Prop := ∀ x ∈ r, 0 ≤ x ∧ x < p

/-! ### comprehensions of ints -/
def LcGoal (J : It) (g : TG) (tt : TT) (te : TE) (vs : List Nat) (σ : L2.St) (H : Hp) (Qd : Addr → Hp → Prop) : Prop := ∀ D, H D = none → ∃ W : Nat → Nat → Hp → Prop, (∃ m, W 0 m (upd H D (.lst []))) ∧ ∀ i m H, W i m H →
  (J.stop i H ∧ Qd D H) ∨ (J.go i H ∧ ∃ Nx : Hp → Prop, (∀ H', Nx H' → ∃ m', m' < m ∧ W (i + 1) m' H') ∧ ∀ x H', J.yld i H x H' → g x (wipe σ vs) H' fun σ2 H2 => wipe σ2 vs = wipe σ vs ∧ tt σ2 H2 fun b H3 =>
    if b = true then te σ2 H3 fun y H4 => ∃ acc, H4 D = some (.lst acc) ∧ acc.length < sizeLine ∧ Nx (upd H4 D (.lst (acc ++ [y]))) else Nx H3)
theorem lc_zipI {K : PySem.W.Frag} {a b : Addr} {xs ys : List Int} {σ : L2.St} {H : Hp} {Qd : Addr → Hp → Prop} {i j : Nat} {vs : List Nat} {te : TE} (f : Int → Int → Int) (hA : SqT K H a (xs.map V.int)) (hB : SqT K H b (ys.map V.int)) (hz : xs.length ≤ 1000)
    (hw : ∀ x y : Option V, wipe (((wipe σ vs).set i x).set j y) vs = wipe σ vs)
    (hte : ∀ (x y : Int) (H' : Hp) (Q' : VK), x ∈ xs → y ∈ ys → Same H H' → Q' (.int (f x y)) H' → te (((wipe σ vs).set i (some (.int x))).set j (some (.int y))) H' Q')
    (hd : ∀ D H', Same H H' → H D = none → H' D = some (.lst ((List.zipWith f xs ys).map V.int)) → Qd D H') :
    LcGoal (RZ.ItzT K a b) (gTup K 2 (gCons (gName i) (gCons (gName j) gNil))) tYes te vs σ H Qd := by
  intro D nD
  refine lc_it (walk_zipT (K := K) (a := a) (b := b) (xs := xs.map V.int) (ys := ys.map V.int) rfl) (fun k H' => Same H H' ∧ H' D = some (.lst (((List.zipWith f xs ys).take k).map V.int))) ⟨same_mut (Same.refl H) nD, upd_same⟩ (fun k H' _ hP => ⟨Same.tup hP.1 hA, Same.tup hP.1 hB⟩) (fun k x H1 H2 hk hP hY => ?_) (fun H' hP => hd D H' hP.1 nD ?_)
  · obtain ⟨Ta, x1, y1, rfl, nT, rfl, e1, e2⟩ := hY
    obtain ⟨sm, eD⟩ := hP
    have sT : Same H1 (upd H1 Ta (.tup [x1, y1])) := same_upd nT
    have e1 : (xs.map V.int)[k]? = some x1 := e1
    have e2 : (ys.map V.int)[k]? = some y1 := e2
    rw [List.getElem?_map] at e1 e2
    cases h1 : xs[k]? with
    | none => rw [h1] at e1; cases e1
    | some z1 =>
      cases h2 : ys[k]? with
      | none => rw [h2] at e2; cases e2
      | some z2 =>
        rw [h1] at e1
        rw [h2] at e2
        have q1 : x1 = V.int z1 := (Option.some.inj e1).symm
        have q2 : y1 = V.int z2 := (Option.some.inj e2).symm
        subst q1 q2
        refine ⟨Ta, [.int z1, .int z2], rfl, .inl (.inl upd_same), rfl, .int z1, [.int z2], rfl, .int z2, [], rfl, rfl, hw _ _, ?_⟩
        refine hte z1 z2 _ _ (List.mem_of_getElem? h1) (List.mem_of_getElem? h2) (sm.trans sT) ⟨_, sT _ _ eD, ?_, same_mut (sm.trans sT) nD, ?_⟩
        · rw [List.length_map, List.length_take, List.length_zipWith]
          exact small1000 (by omega)
        · rw [upd_same, List.take_add_one, List.getElem?_zipWith, h1, h2, List.map_append]
          rfl
  · obtain ⟨sm, eD⟩ := hP
    rw [eD, List.take_of_length_le]
    rw [List.length_zipWith, List.length_map, List.length_map]
    exact Nat.le_refl _
theorem lc_tupI {K : PySem.W.Frag} {a : Addr} {xs : List Int} {σ : L2.St} {H : Hp} {Qd : Addr → Hp → Prop} {i : Nat} {vs : List Nat} {te : TE} (f : Int → Int) (hA : SqT K H a (xs.map V.int)) (hz : xs.length ≤ 1000)
    (hw : ∀ x : Option V, wipe ((wipe σ vs).set i x) vs = wipe σ vs)
    (hte : ∀ (x : Int) (H' : Hp) (Q' : VK), x ∈ xs → Same H H' → Q' (.int (f x)) H' → te ((wipe σ vs).set i (some (.int x))) H' Q')
    (hd : ∀ D H', Same H H' → H D = none → H' D = some (.lst ((xs.map f).map V.int)) → Qd D H') :
    LcGoal (Itt K a) (gName i) tYes te vs σ H Qd := by
  intro D nD
  refine lc_it (walk_tup (K := K) (a := a) (xs := xs.map V.int)) (fun k H' => Same H H' ∧ H' D = some (.lst (((xs.map f).take k).map V.int))) ⟨same_mut (Same.refl H) nD, upd_same⟩ (fun k H' _ hP => Same.tup hP.1 hA) (fun k x H1 H2 hk hP hY => ?_) (fun H' hP => hd D H' hP.1 nD ?_)
  · obtain ⟨rfl, e1⟩ := hY
    obtain ⟨sm, eD⟩ := hP
    rw [List.getElem?_map] at e1
    cases h1 : xs[k]? with
    | none => rw [h1] at e1; cases e1
    | some z1 =>
      rw [h1] at e1
      have q1 : x = V.int z1 := (Option.some.inj e1).symm
      subst q1
      refine ⟨hw _, hte z1 _ _ (List.mem_of_getElem? h1) sm ⟨_, eD, ?_, same_mut sm nD, ?_⟩⟩
      · rw [List.length_map, List.length_take, List.length_map]
        exact small1000 (by omega)
      · rw [upd_same, List.take_add_one, List.getElem?_map, h1, List.map_append]
        rfl
  · obtain ⟨sm, eD⟩ := hP
    rw [eD, List.take_of_length_le]
    rw [List.length_map, List.length_map]
    exact Nat.le_refl _
end OC

set_option Elab.async false
set_option linter.all false
set_option maxRecDepth 100000
set_option maxHeartbeats 2000000
/-! defs that are called while no repr is under way (A.guards = some []): the layer's promise with that one fact more -/
namespace OC
open PySem PySem.Spec PyProof.Rows L2
structure FnG (P : Program) (w : World) (K : PySem.W.Frag) (mg : Str → Option Value) (base : Heap) (CX : CXT) (k : Nat)
    (f : Addr) (fd : FuncData) (ps : List Str) (sp : Sp) : Prop where
  len : ∀ vs H Q E, sp vs H Q E → vs.length = ps.length
  go : ∀ (A : Around) (outer : List Env) (s : Shared) (H : Hp) (args : Args) (us : List Value) (vs : List V) (Q : VK) (E : XK),
    Room k A → A.guards = some [] → Env0 P w K mg base A outer s H → BindsTo s fd args (ps.zip us) → Vals vs us → sp vs H Q E →
    codeAny (model P w) A (.call (.ref f) args) (CR CX outer P w H s Q E) s
section
variable {P : Program} {w : World} {K : PySem.W.Frag} {mg : Str → Option Value} {base : Heap} {CX : CXT} {k : Nat} {f : Addr} {fd : FuncData} {ps : List Str} {sp : Sp}
theorem FnG.of (F : FnOk P w K mg base CX k f fd ps sp) : FnG P w K mg base CX k f fd ps sp :=
  ⟨F.len, fun A outer s H args us vs Q E hr _ => F.run A outer s H args us vs Q E hr⟩
theorem FnG.mono {j : Nat} (F : FnG P w K mg base CX j f fd ps sp) (h : j ≤ k) : FnG P w K mg base CX k f fd ps sp :=
  ⟨F.len, fun A outer s H args us vs Q E hr => F.go A outer s H args us vs Q E (hr.mono h)⟩
end
/-- from the body, where no repr is under way -/
theorem fnG_of {CX : CXT} {P : Program} {w : World} {K : PySem.W.Frag} {mg : Str → Option Value} {base : Heap} {k : Nat} {f : Addr}
    {nm ql : Str} {pr : Arguments} {bd : List Stmt} {sc : Scope} {dV kV doc pm cdv ct oc : Value} {an od : Option Addr}
    {osl : Array (Option Value)} {N ps : List Str} {sp : Sp}
    (lk : K.lookup f = some ⟨oc, od, .func (PySem.W.fnOf nm ql pr bd sc dV kV doc pm an cdv ct), osl⟩)
    (hcd : PySem.W.codeIn K cdv ql = true) (S : FnScope N ps sc)
    (len : ∀ vs H Q E, sp vs H Q E → vs.length = ps.length)
    (hbody : ∀ (A : Around) (outer : List Env) (s : Shared) (H : Hp) (vs : List V) (Q : VK) (E : XK),
      Room k (A.deeper (envOfC ql sc s.heap.objs.size f cdv)) → A.guards = some [] → sp vs H Q E →
      ∃ t, PSs (cxOf CX P w K mg base N ql sc f cdv A outer s H E) bd t ∧ t { nx := fun _ H' => Q .non H', rt := Q } (start N vs) H) :
    FnG P w K mg base CX (k + 1) f (PySem.W.fnOf nm ql pr bd sc dV kV doc pm an cdv ct) ps sp where
  len := len
  go A outer s H args us vs Q E hr hgd e0 hb r hsp := by
    have same : ∀ b o, base.get? b = some o → s.heap.get? b = some o := fun b o e => (e0.bs b o e).1
    have inK : K.In s.heap := e0.mod.kin.keeps same
    have noLim : s.heap.NoLimit := e0.mod.nolimit.keeps same
    have kinds : ∀ y ∈ ps.zip us, sc.names.lookup y.1 = some .local ∨
        (sc.names.lookup y.1 = some .cell ∧ ((cellsFrom (s.heap.objs.size + 1) sc.names []).lookup y.1).isSome = true) := by
      rintro ⟨n, v⟩ hy
      exact (S.par n (List.of_mem_zip hy).1).imp id fun q => ⟨q, PySem.W.cellsFrom_some _ _ _ (.inl q)⟩
    apply codeAny_call_function hr.depth (inK _ _ lk) rfl S.co S.gen rfl (PySem.W.codeRec_of inK hcd)
    apply hb
    apply wpAny_newFunctionEnv_cells S.kind kinds
    intro env he s1 x
    cases he
    refine ⟨noLim.keeps x.toInCall.keep, codeAny_func ?_⟩
    obtain ⟨t, ht, hq⟩ := hbody A outer s H vs Q E (hr.deeper _) hgd hsp
    have I0 := inv_start (CX := CX) (P := P) (w := w) (E := E) S hr.hd e0 (len _ _ _ _ hsp) r x
    have ran := ht.run [] s1 (start N vs) H _ I0 hq
    apply wpAny_mono ran
    · intro fl s' hs
      rcases fl with _ | _ | _ | u
      all_goals first
        | (obtain ⟨v, σ', H', J, rv, q⟩ := hs; exact ⟨v, H', J.os, J.bare, J.base, J.hok, rv, q⟩)
        | (obtain ⟨σ', H', J, q⟩ := hs; exact ⟨V.non, H', J.os, J.bare, J.base, J.hok, rfl, q⟩)
        | (obtain ⟨_, _, _, q⟩ := hs; exact q.elim)
    · exact fun e s' hs => hs
section
variable {X : Cx} {CX : CXT} {k : Nat} {f : Addr} {fd : FuncData} {ps : List Str} {sp : Sp} {E : XK}
theorem runG {pins : List (Addr × Obj)} {σ : L2.St} {H : Hp} {s : Shared} {Q : VK} {us : List Value} {vs : List V}
    (F : FnG X.prog X.w X.K X.mg X.base CX k f fd ps sp) (hr : Room k X.A) (hgd : X.A.guards = some []) (hb : Binds X.K fd ps []) (hx : Passes CX X E)
    (I : Inv X pins σ H s) (r : Vals vs us) (h : sp vs H Q E) : wpAny (model X.prog X.w) X.A (call (.ref f) us) (EP X pins σ Q) X.xe s := by
  have hl : us.length = ps.length := r.length.symm.trans (F.len _ _ _ _ h)
  have hb' := hb s us I.kIn (by rw [List.append_nil]; exact hl)
  rw [List.append_nil] at hb'
  have run := F.go X.A X.stack s H ⟨us, []⟩ us vs Q E hr hgd I.env0 hb' r h
  apply wpAny_call
  apply codeAny_mono run
  intro res s' hq
  rcases res with e | fl
  · exact hx pins σ H s e s' I hq
  · rcases fl with _ | _ | _ | u
    all_goals first
      | exact I.after hq
      | exact (show False from hq).elim
end
/-! ### by name -/
structure OkG (P : Program) (w : World) (K : PySem.W.Frag) (mg : Str → Option Value) (base : Heap) (k : Nat) (x : Str) (ps : List Str) (sp : Sp) : Prop where
  ex : ∃ (f : Addr) (fd : FuncData), FnG P w K mg base CX0 k f fd ps sp ∧ mg x = some (.ref f) ∧ PySem.W.keepIn K (.ref f) = true ∧ Binds K fd ps []
section
variable {P : Program} {w : World} {K : PySem.W.Frag} {mg : Str → Option Value} {base : Heap}
theorem Ok.toG {x : Str} {ps : List Str} {k : Nat} {sp : Sp} (O : Ok P w K mg base k x ps sp) : OkG P w K mg base k x ps sp := by
  obtain ⟨f, fd, F, r⟩ := O.ex
  exact ⟨f, fd, .of F, r⟩
theorem funG {x : Str} {st : Stmt} {f : Addr} {fd : FuncData} {N ps : List Str} {k : Nat} {sp : Sp} (F : Fun K x x st f fd) (S : FnScope N ps (defScope st)) (len : ∀ vs H Q E, sp vs H Q E → vs.length = ps.length)
    (hbody : ∀ (cdv : Value) (A : Around) (outer : List Env) (s : Shared) (H : Hp) (vs : List V) (Q : VK) (E : XK), Room k (A.deeper (envOfC x (defScope st) s.heap.objs.size f cdv)) → A.guards = some [] → sp vs H Q E →
      ∃ t, PSs (cxOf CX0 P w K mg base N x (defScope st) f cdv A outer s H E).nox (defBody st) t ∧ t { nx := fun _ H' => Q .non H', rt := Q } (start N vs) H) : FnG P w K mg base CX0 (k + 1) f fd ps sp := by
  obtain ⟨oc, od, kV, doc, pm, an, cdv, ct, osl, rfl, lk, hcd⟩ := F.ex
  refine fnG_of lk hcd S len ?_
  intro A outer s H vs Q E hr hgd hsp
  obtain ⟨t, h, q⟩ := hbody cdv A outer s H vs Q E hr hgd hsp
  exact ⟨t, h.nox, q⟩
theorem Df.okG {x : Str} {st : Stmt} {N ps : List Str} {k : Nat} {sp : Sp} (D : Df K mg x st ps) (S : FnScope N ps (defScope st)) (len : ∀ vs H Q E, sp vs H Q E → vs.length = ps.length)
    (hbody : ∀ (f : Addr) (cdv : Value) (A : Around) (outer : List Env) (s : Shared) (H : Hp) (vs : List V) (Q : VK) (E : XK), Room k (A.deeper (envOfC x (defScope st) s.heap.objs.size f cdv)) → A.guards = some [] → sp vs H Q E →
      ∃ t, PSs (cxOf CX0 P w K mg base N x (defScope st) f cdv A outer s H E).nox (defBody st) t ∧ t { nx := fun _ H' => Q .non H', rt := Q } (start N vs) H) : OkG P w K mg base (k + 1) x ps sp := by
  obtain ⟨f, fd, F, b, g⟩ := D.ex
  exact ⟨f, fd, funG F S len (hbody f), g, F.kp, b⟩
end
section
variable {X : Cx} {x : Str} {ps : List Str} {k : Nat} {sp : Sp}
theorem pe_callG {e : Expr} {es : List Expr} {t : TA} {p pos : Pos} (O : OkG X.prog X.w X.K X.mg X.base k x ps sp) (hr : Room k X.A) (hgd : X.A.guards = some []) (hg : Gl X x) (ha : PA X (e :: es) t) (hdb : (x == ("__debug__" : Str)) = false := by decide)
    (he : starEach (e :: es) X.env = (false, eval e X.env) :: starEach es X.env := by rfl) (hpl : (backTo pos (starEach es X.env)).any (·.1) = false := by rfl) :
    PE X (.Call (.Name x p) (e :: es) [] pos) (fun σ H Q => t σ H fun vs H1 => sp vs H1 Q E0) := by
  obtain ⟨f, fd, F, g, kp, b⟩ := O.ex
  constructor
  intro pins s σ H Q I h
  apply wpAny_Call_Name_kw
  apply ld_glob I hg g _ hdb
  apply PySem.W.callWith_K (h₀ := X.base) I.ok.mod.kin kp _ he hpl
  apply thn (ha.run pos pins s σ H _ I h)
  rintro us s1 ⟨vs, H1, I1, r, q⟩
  exact ⟨I1.kIn, runG F hr hgd b pass0 I1 r q⟩
end
end OC

set_option Elab.async false
set_option linter.all false
set_option maxRecDepth 100000
set_option maxHeartbeats 2000000
namespace OC
open PySem PySem.Spec PyProof.Rows L2
section
variable {P : Program} {w : World} {K : PySem.W.Frag} {mg mb : Str → Option Value} {CX : CXT} {k : Nat} {fa a : Addr} {fd : FuncData} {x : Str} {sp : Sp} {s₁ : Shared} {vs : List Value} {ns : List Int}
/-- the law's own call, where only the script may be tracked -/
theorem law_core (KX : K.In s₁.heap) (hns : s₁.heap.Ns mainGlobals mg) (hb : s₁.heap.Ns builtinsNs mb) (hbb : ∀ x : Str, x ≠ "__name__" → mb x = bootBuiltins x)
    (hlim : s₁.heap.NoLimit) (hg : s₁.gens = #[]) (ha : s₁.heap.get? a = some { cls := .type "list", data := .seq vs.toArray }) (hr : Room k callerA)
    (F : ∀ base : Heap, K.In base → base.Ns mainGlobals mg → FnG P w K mg base CX k fa fd [x] sp)
    (hbind : ∀ (s : Shared) (u : Value), BindsTo s fd ⟨[u], []⟩ [(x, u)]) (hCX : ∀ H e s', CX [] H s₁ (fun _ _ _ => False) e s' → False)
    (H : Hp) (hO : Only H) (hsp : sp [.ref a] H (fun v _ => v = .bl true) fun _ _ _ => False) (hok : HOk P w H s₁.heap) (hA : ∀ b, H b ≠ none → b = a) (hK : H a ≠ none → K.lookup a = none) :
    codeAny (model P w) callerA (.call (.ref fa) ⟨[.ref a], []⟩)
      (fun r s' => r = .ok (.ret (.bool true)) ∧ OldK s₁.heap s'.heap ∧ s'.os = s₁.os ∧ AllBare s'.gens) s₁ := by
  have off : ∀ {b : Addr} {o : Obj} {es : Array DictEntry} {ep : Nat}, s₁.heap.get? b = some o → o.data = .dict es ep → H b = none := by
    intro b o es ep e d
    apply Classical.byContradiction
    intro nb
    have eb := hA b nb
    subst eb
    rw [ha] at e
    have eo := Option.some.inj e
    subst eo
    cases (show Data.seq vs.toArray _ = Data.dict es ep from d)
  have nsB : ∀ {b : Addr} {m : Str → Option Value}, s₁.heap.Ns b m → (hidT s₁.heap H).Ns b m := by
    rintro b m ⟨o, es, ep, e, d, r⟩
    exact ⟨o, es, ep, hidT_get e (off e d), d, r⟩
  have inB : K.In (hidT s₁.heap H) := by
    intro b o e
    refine hidT_get (KX b o e) ?_
    apply Classical.byContradiction
    intro nb
    have eb := hA b nb
    subst eb
    rw [hK nb] at e
    cases e
  obtain ⟨mc, l1, l2⟩ := hlim
  have M : Mod K mg (hidT s₁.heap H) := ⟨inB, nsB hns, ⟨mb, nsB hb, hbb⟩, ⟨mc, nsB l1, l2⟩⟩
  have e0 : Env0 P w K mg (hidT s₁.heap H) callerA [] s₁ H :=
    ⟨rfl, M, fun b o e => of_hidT e, Nat.le_of_eq (hidT_size _ _), trivial, fun b hb => (nomatch (show b ∈ ([] : List Addr) from hb)), hok, .of_eq hg⟩
  have run := (F _ inB (nsB hns)).go callerA [] s₁ H ⟨[.ref a], []⟩ [.ref a] [.ref a] _ _ hr rfl e0 (hbind s₁ (.ref a)) (.cons rfl .nil) hsp
  apply codeAny_mono run
  intro r s' h
  rcases r with e | fl
  · exact (hCX H e s' h).elim
  · rcases fl with _ | _ | _ | u
    all_goals first
      | exact (show False from h).elim
      | skip
    obtain ⟨v, H', os, bare, un, hok', r', q⟩ := h
    cases (show v = .bl true from q)
    cases (show u = Value.bool true from r')
    refine ⟨rfl, OldK.of_keep ?_, os, bare⟩
    intro b o e
    rcases hO b with z | ⟨ob, xs, z⟩
    · exact un.keep b o e z (fun y => (nomatch (show b ∈ ([] : List Addr) from y))) (fun y => (nomatch y))
    · have e1 := (hok b _ z).1
      have e2 := (hok' b _ (un.frzs b ob _ z)).1
      rw [e] at e1
      rw [Option.some.inj e1]
      exact e2
theorem law_callG (KX : K.In s₁.heap) (hns : s₁.heap.Ns mainGlobals mg) (hb : s₁.heap.Ns builtinsNs mb) (hbb : ∀ x : Str, x ≠ "__name__" → mb x = bootBuiltins x)
    (hlim : s₁.heap.NoLimit) (hg : s₁.gens = #[]) (ha : s₁.heap.get? a = some { cls := .type "list", data := .seq vs.toArray }) (hi : IntsAre vs ns) (hl : ns.length ≤ sizeLine) (hr : Room k callerA)
    (F : ∀ base : Heap, K.In base → base.Ns mainGlobals mg → FnG P w K mg base CX k fa fd [x] sp)
    (hbind : ∀ (s : Shared) (u : Value), BindsTo s fd ⟨[u], []⟩ [(x, u)])
    (hsp : ∀ H : Hp, Only H → SqL K H a (ns.map V.int) → sp [.ref a] H (fun v _ => v = .bl true) fun _ _ _ => False) (hCX : ∀ H e s', CX [] H s₁ (fun _ _ _ => False) e s' → False) :
    codeAny (model P w) callerA (.call (.ref fa) ⟨[.ref a], []⟩)
      (fun r s' => r = .ok (.ret (.bool true)) ∧ OldK s₁.heap s'.heap ∧ s'.os = s₁.os ∧ AllBare s'.gens) s₁ := by
  have rv := vals_ints hi
  have lv := hi.length
  cases hk : K.lookup a with
  | some o =>
    have e := KX a o hk
    rw [ha] at e
    have eo := (Option.some.inj e).symm
    subst eo
    have only : Only (fun _ => none) := fun _ => .inl rfl
    have sq : SqL K (fun _ => none) a (ns.map V.int) := .inr ⟨_, vs.toArray, _, hk, rfl, rfl, rfl, by rw [List.size_toArray, lv]; exact hl, by simpa using rv⟩
    exact law_core KX hns hb hbb hlim hg ha hr F hbind hCX (fun _ => none) only (hsp _ only sq) (fun b u z => (nomatch (show (none : Option HO) = some u from z))) (fun b z => (z rfl).elim) (fun z => (z rfl).elim)
  | none =>
    let H0 : Hp := upd (fun _ => none) a (.frz { cls := .type "list", data := .seq vs.toArray } (.lst (ns.map V.int)))
    have at_a : H0 a = some (.frz { cls := .type "list", data := .seq vs.toArray } (.lst (ns.map V.int))) := upd_same
    have off : ∀ b, b ≠ a → H0 b = none := fun b n => upd_ne n
    have only : Only H0 := by
      intro b
      by_cases hb : b = a
      · subst hb
        exact .inr ⟨_, _, at_a⟩
      · exact .inl (off b hb)
    refine law_core KX hns hb hbb hlim hg ha hr F hbind hCX H0 only (hsp _ only (.inl (.inr ⟨_, at_a⟩))) ?_ ?_ (fun _ => hk)
    · intro b u z
      by_cases hb : b = a
      · subst hb
        rw [at_a] at z
        have ez := (Option.some.inj z).symm
        subst ez
        exact ⟨ha, by rw [List.length_map]; exact hl, vs, _, rv, ha⟩
      · rw [off b hb] at z
        cases z
    · intro b z
      apply Classical.byContradiction
      intro hb
      exact z (off b hb)
end
theorem walk_ofG {l : PySem.W.OpenLaw} {n k : Nat} {q : Program} {loose : List Str} {XP : (Str → Option Value) → Heap → Prop} {YP : World → Heap → Prop} {d : DefRec} {K : Params → PySem.W.Frag} {CX : World → CXT} {sp : World → Sp} {x : Str}
    (hn : l.most = some n) (hn2 : n ≤ sizeLine) (hdf : d.params.defaults = []) (hr : Room k callerA) (hY : ∀ (w : World) (h : Heap), YP w h → (K w.params).In h) (F : ∀ (w : World) (mg : Str → Option Value) (fa : Addr) (h : Heap), (K w.params).In h → h.Ns mainGlobals mg → mg d.name = some (.ref fa) → ∃ fd : FuncData, (∀ (s : Shared) (u : Value), BindsTo s fd ⟨[u], []⟩ [(x, u)]) ∧ ∀ base : Heap, (K w.params).In base → base.Ns mainGlobals mg → FnG l.prog w (K w.params) mg base (CX w) k fa fd [x] (sp w)) (hsp : ∀ (w : World) (H : Hp) (a : Addr) (ns : List Int), ns.length ≤ n → Only H → SqL (K w.params) H a (ns.map V.int) → sp w [.ref a] H (fun v _ => v = .bl true) fun _ _ _ => False) (hCX : ∀ (w : World) (H : Hp) (s : Shared) (e : Value) (s' : Shared), CX w [] H s (fun _ _ _ => False) e s' → False) : PySem.W.WalkO q loose XP YP l.row.toRowW d [] (fun f vs => PySem.call f vs) := by
  apply Att.attach_call hn hdf
  intro w s₀ s₁ mg mb fa o pm cd doc a vs ns G Y ho hd hcd hmg hobj hints hlen hg
  obtain ⟨fd, hb, hF⟩ := F w mg fa _ (hY w _ Y) G.T.g hmg
  exact law_callG (hY w _ Y) G.T.g G.T.b G.T.builtins G.T.nolimit hg hobj hints (Nat.le_trans hlen hn2) hr hF hb (fun H hO hS => hsp w H a ns hlen hO hS) fun H e s' => hCX w H s₁ e s'
end OC

set_option Elab.async false
set_option linter.all false
set_option maxRecDepth 100000
set_option maxHeartbeats 2000000
/-! t[::-1] of a tuple -/
namespace OC
open PySem PySem.Spec PyProof.Rows L2 HT
section
variable {prog : Program} {w : World} {A : Around} {E : Value → Shared → Prop} {s : Shared}
theorem pick_back (xs : Array Value) : ((List.range xs.size).filterMap fun (m : Nat) => xs[(((xs.size : Int) - 1) + (m : Int) * (-1)).toNat]?).toArray = xs.toList.reverse.toArray := by
  congr 1
  have h : ∀ k, k ≤ xs.size → ((List.range k).filterMap fun (m : Nat) => xs[(((xs.size : Int) - 1) + (m : Int) * (-1)).toNat]?) = xs.toList.reverse.take k := by
    intro k
    induction k with
    | zero => intro _; simp
    | succ k ih =>
      intro hk
      have i1 : (((xs.size : Int) - 1) + (k : Int) * (-1)).toNat = xs.size - 1 - k := by omega
      have i2 : xs.size - 1 - k < xs.size := by omega
      rw [List.range_succ, List.filterMap_append, ih (by omega), List.take_add_one]
      congr 1
      have g : xs.toList.reverse[k]? = some xs[xs.size - 1 - k] := by
        rw [List.getElem?_reverse (by simpa using (show k < xs.size from hk)), Array.length_toList, Array.getElem?_toList]
        exact Array.getElem?_eq_getElem i2
      rw [g]
      simp only [List.filterMap_cons, List.filterMap_nil, i1, Array.getElem?_eq_getElem i2]
      rfl
  rw [h xs.size (Nat.le_refl _), List.take_of_length_le]
  simp
theorem slice_back {sl : Addr} {vl vu vs : Value} {n : Nat} {Q : Int × Int × Nat → Shared → Prop} (hs : s.heap.IsSliceOf sl vl vu vs) (pl : IsPart vl none) (pu : IsPart vu none) (ps : IsPart vs (some (-1)))
    (h : Q ((n : Int) - 1, -1, n) s) : wpAny (model prog w) A (Builtin.Slice.sliceApplied (.ref sl) (pure (n : Int))) Q E s := by
  obtain ⟨os, hos, hcs, hds⟩ := id hs
  unfold Builtin.Slice.sliceApplied Builtin.Slice.sliceFields
  apply wpAny_bind
  apply wpAny_bind
  apply wpAny_field hos hds (x := vl) rfl
  apply wpAny_bind
  apply wpAny_field hos hds (x := vu) rfl
  apply wpAny_bind
  apply wpAny_field hos hds (x := vs) rfl
  apply wpAny_pure
  apply wpAny_bind
  apply slicePart_ ps
  show wpAny _ _ (if ((-1 : Int) == 0) = true then _ else _) _ _ s
  rw [if_neg (by decide)]
  apply wpAny_bind
  apply slicePart_ pl
  apply wpAny_bind
  apply slicePart_ pu
  apply wpAny_bind
  apply wpAny_pure
  have e1 : Builtin.Slice.sliceAdjust none none (-1) (n : Int) = ((n : Int) - 1, -1) := rfl
  have e2 : Builtin.Slice.slicePlaces ((n : Int) - 1) (-1) (-1) = n := by
    unfold Builtin.Slice.slicePlaces
    rw [if_neg (by decide)]
    by_cases hn : n = 0
    · subst hn
      decide
    · rw [if_pos (by omega), show (- -1 : Int) = 1 from rfl, Int.ediv_one]
      omega
  show wpAny _ _ (match Builtin.Slice.sliceAdjust none none (-1) (n : Int) with | (lo, hi) => pure (lo, (-1 : Int), Builtin.Slice.slicePlaces lo hi (-1))) _ _ s
  rw [e1]
  show wpAny _ _ (pure ((n : Int) - 1, (-1 : Int), Builtin.Slice.slicePlaces ((n : Int) - 1) (-1) (-1))) _ _ s
  rw [e2]
  exact wpAny_pure h
theorem getItem_tuple_back {t sl : Addr} {items : Array Value} {vl vu vs : Value} {Q : Value → Shared → Prop} (ht : IsTup s.heap t items) (hs : s.heap.IsSliceOf sl vl vu vs) (pl : IsPart vl none) (pu : IsPart vu none) (ps : IsPart vs (some (-1)))
    (h : Q (.ref s.heap.objs.size) { s with heap := s.heap.push { cls := .type "tuple", data := .seq items.toList.reverse.toArray } }) (hsz : items.size ≤ sizeLine) : wpAny (model prog w) A (getItem (.ref t) (.ref sl)) Q E s := by
  have hz : sizeOk (.seq items.toList.reverse.toArray) := by
    show items.toList.reverse.toArray.size ≤ sizeLine
    simpa using hsz
  obtain ⟨os, hos, hcs, hds⟩ := id hs
  have hTs : s.TypeIs (.ref sl) "slice" := ⟨os, hos, hcs⟩
  unfold getItem
  try with_reducible apply wpAny_holding
  try (apply wpAny_bind; apply wpAny_pure)
  apply wpAny_bind
  apply wpAny_sequenceKey ht.typeIs (by decide)
  apply wpAny_bind
  apply wpAny_callSpecial?_slot (name := Str.ofString "__getitem__") ht.typeIs PyProof.Rows.slot_tuple_getitem
  refine wpAny_call_entry PyProof.Rows.slot_tuple_getitem ht.typeIs entry_tuple_getitem ?_ (args_tuple_getitem _ _)
  show wpAny _ _ (Builtin.Tuple.tupleItemsOf (.ref t) >>= _) _ _ s
  apply wpAny_bind
  apply tupleItemsOf_ ht
  apply wpAny_bind
  apply wpAny_typeOf hTs
  rw [if_pos (by decide)]
  apply wpAny_bind
  apply slice_back hs pl pu ps
  have hno : ¬ ((((items.size : Int) - 1) == 0 && (-1 : Int) == 1 && items.size == items.size) = true) := by simp
  show wpAny _ _ (if (((items.size : Int) - 1) == 0 && (-1 : Int) == 1 && items.size == items.size) = true then _ else _) _ _ s
  rw [if_neg hno, pick_back]
  first
    | exact wpAny_bind (m := Builtin.Tuple.tupleExact _) (wpAny_newObj_type (wpAny_pure ⟨_, rfl, wpAny_pure h⟩) hz)
    | exact wpAny_bind (wpAny_bind (m := Builtin.Tuple.tupleExact _) (wpAny_newObj_type (wpAny_pure ⟨_, rfl, wpAny_pure h⟩) hz))
    | exact wpAny_bind (m := Builtin.Tuple.tupleExact _) (wpAny_newObj_type (wpAny_bind (wpAny_pure (wpAny_pure ⟨_, rfl, wpAny_pure h⟩))) hz)
    | exact wpAny_bind (wpAny_bind (m := Builtin.Tuple.tupleExact _) (wpAny_newObj_type (wpAny_pure (wpAny_pure ⟨_, rfl, wpAny_pure h⟩)) hz))
end
def tRevT (K : PySem.W.Frag) (te : TE) : TE := fun σ H Q => te σ H fun x H1 => ∃ a xs, x = .ref a ∧ SqT K H1 a xs ∧ ∀ p, H1 p = none → Q (.ref p) (upd H1 p (.tup xs.reverse))
theorem pe_revT {X : Cx} {e : Expr} {te : TE} {k : Nat} {p1 p2 p3 pos : Pos} (he : PE X e te) :
    PE X (.Subscript e (.Slice none none (some (.UnaryOp .USub (.Constant (.int 1) k p1) p2)) p3) pos) (tRevT X.K te) := by
  constructor
  intro pins s σ H Q I h
  apply Subscript_
  apply thn (he.run pins s σ H _ I h)
  rintro v s1 ⟨x, H1, I1, r1, a, xs, rfl, hx, q⟩
  cases r1
  have part : PO X (some (.UnaryOp .USub (.Constant (.int 1) k p1) p2)) (tPart (tUn (rU fun i => .int (-i)) (tC (.int 1)))) := po_some (pe_un un_neg pe_int)
  apply wpAny_Slice
  apply thn (po_none.run pins s1 σ H1 (fun o H2 => o = none ∧ H2 = H1) I1 ⟨rfl, rfl⟩)
  rintro vl s2 ⟨_, _, I2, pl, rfl, rfl⟩
  apply thn (po_none.run pins s2 σ _ (fun o H3 => o = none ∧ H3 = _) I2 ⟨rfl, rfl⟩)
  rintro vu s3 ⟨_, _, I3, pu, rfl, rfl⟩
  apply thn (part.run pins s3 σ _ (fun o H4 => o = some (-1) ∧ H4 = _) I3 ⟨1, rfl, -1, rfl, rfl, rfl⟩)
  rintro vs s4 ⟨_, _, I4, ps, rfl, rfl⟩
  have I5 := I4.kept (h' := s4.heap.push { cls := .type "slice", data := .fields #[vl, vu, vs] }) (t' := s4.toks) fun b ob q => Heap.get?_push_of_some _ q
  obtain ⟨its, r, ht, hz⟩ := I5.tuple hx
  have hlen := r.length
  show wpAny (model X.prog X.w) X.A (subscriptTail e (.Slice none none (some (.UnaryOp .USub (.Constant (.int 1) k p1) p2)) p3) (.ref a) (.ref s4.heap.objs.size)) (EP X pins σ Q) X.xe _
  refine tail_any (ops := [.ref a, .ref s4.heap.objs.size]) ht.typeIs (PyProof.Rows.slot_tuple_getitem.lookup) ?_ (by with_unfolding_all rfl)
  refine getItem_tuple_back ht (Heap.IsSliceOf.new _ vl vu vs) pl pu ps ?_ (by rw [List.size_toArray]; omega)
  have J := I5.laid (t' := s4.toks) (o := .tup xs.reverse) (h' := (s4.heap.push { cls := .type "slice", data := .fields #[vl, vu, vs] }).push { cls := .type "tuple", data := .seq its.toArray.toList.reverse.toArray }) (fun b ob q => Heap.get?_push_of_some _ q) (Nat.le_refl _) ⟨by rw [List.length_reverse]; exact hz, its.reverse, r.reverse, IsTup.new _ _⟩
  exact ⟨.ref _, _, J, rfl, q _ (I5.hok.fresh (Nat.le_refl _))⟩
end OC

set_option Elab.async false
set_option linter.all false
set_option maxRecDepth 100000
set_option maxHeartbeats 2000000
/-! repr of things, where no repr is under way -/
namespace OC
open PySem PySem.Spec PyProof.Rows L2
mutual
def lstless : PyData → Bool
  | .none => true | .bool _ => true | .int _ => true | .str _ => true | .list _ => false | .tuple ds => lstlessAll ds | .dict _ => true
def lstlessAll : List PyData → Bool
  | [] => true
  | d :: ds => lstless d && lstlessAll ds
end
section
variable {X : Cx} {pins : List (Addr × Obj)} {σ : L2.St} {H : Hp} {s : Shared} {bad : Addr → Prop}
theorem reads_key {h : Heap} {k : Key} {u : Value} (e : keyIs k u = true) : Reads h u (keyD k) [] := by
  rcases keyIs_shape e with ⟨i, t, rfl, rfl⟩ | ⟨x, t, rfl, rfl⟩
  · exact .int i t
  · exact .str x t
theorem reads_fl {h : Heap} : ∀ {v : V} {u : Value}, flOk v = true → RelV v u → Reads h u (flD v) []
  | .non, _, _, r => by cases r; exact .none
  | .bl b, _, _, r => by cases r; exact .bool b
  | .int i, _, _, r => by obtain ⟨t, rfl⟩ := r; exact .int i t
  | .str x, _, _, r => by obtain ⟨t, rfl⟩ := r; exact .str x t
theorem reads_pairs {h : Heap} {P : Program} {w : World} : ∀ {es : List DictEntry} {vs : List (Key × Value)} {kvs : List (Key × V)}, Pairs (mixKind P w) es vs → KV kvs vs → (kvs.all fun p => flOk p.2) = true →
    ReadsAll h (es.map (·.key)) (kvs.map fun p => keyD p.1) [] ∧ ReadsAll h (es.map (·.val)) (kvs.map fun p => flD p.2) []
  | _, _, _, .nil, .nil, _ => ⟨.nil, .nil⟩
  | _, _, _, .cons h1 h2 t, .cons ⟨e1, e2⟩ t2, hf => by
    rw [List.all_cons, Bool.and_eq_true] at hf
    obtain ⟨a, b⟩ := reads_pairs (h := h) t t2 hf.2
    have k1 := reads_key (h := h) (show keyIs _ _ = true from h1)
    rw [← e1] at k1
    have v1 := reads_fl (h := h) hf.1 e2
    rw [← h2] at v1
    exact ⟨.cons k1 a, .cons v1 b⟩
mutual
theorem rep_reads (I : Inv X pins σ H s) : ∀ (d : PyData) (v : V) (u : Value), Rep X.K H bad v d → RelV v u → ∃ as, Reads s.heap u d as ∧ (lstless d = true → sysModules ∉ as)
  | .none, _, _, h, r => by cases h; cases r; exact ⟨_, .none, fun _ => nofun⟩
  | .bool b, _, _, h, r => by cases h; cases r; exact ⟨_, .bool b, fun _ => nofun⟩
  | .int i, _, _, h, r => by cases h; obtain ⟨t, rfl⟩ := r; exact ⟨_, .int i t, fun _ => nofun⟩
  | .str x, _, _, h, r => by cases h; obtain ⟨t, rfl⟩ := r; exact ⟨_, .str x t, fun _ => nofun⟩
  | .list ds, _, _, h, r => by
    cases h with
    | lst hs hb ha =>
      cases r
      obtain ⟨its, rv, ⟨o, n, ho, hc, _, hd⟩, _⟩ := I.list (.inl (.inl hs))
      obtain ⟨as, q, _⟩ := repAll_reads I ds _ its ha rv
      exact ⟨_, .list ho hc hd q, fun z => by simp [lstless] at z⟩
  | .tuple ds, _, _, h, r => by
    cases h with
    | tup hs ha =>
      cases r
      obtain ⟨its, rv, ⟨o, ho, hc, n, hd⟩, _⟩ := I.tuple hs
      obtain ⟨as, q, f⟩ := repAll_reads I ds _ its ha rv
      exact ⟨_, .tuple ho hc hd q, fun z => f (by simpa [lstless] using z)⟩
  | .dict kvs, v, u, h, r => by
    cases h with
    | @dct a ks hs hf =>
      cases r
      obtain ⟨_, hsys, vs, kv, o, es, ep, ho, hx, hd, _, hp, _⟩ := I.hok a _ hs
      obtain ⟨r1, r2⟩ := reads_pairs (h := s.heap) hp kv hf
      refine ⟨a :: [] ++ [], .dict ho hx.1 hd (by rw [List.map_map]; exact r1) (by rw [List.map_map]; exact r2), fun _ m => ?_⟩
      have e : sysModules = a := by simpa using m
      rw [← e] at hsys
      simp at hsys
theorem repAll_reads (I : Inv X pins σ H s) : ∀ (ds : List PyData) (vs : List V) (us : List Value), RepAll X.K H bad vs ds → Vals vs us → ∃ as, ReadsAll s.heap us ds as ∧ (lstlessAll ds = true → sysModules ∉ as)
  | [], _, _, h, r => by cases h; cases r; exact ⟨_, .nil, fun _ => nofun⟩
  | d :: ds, _, _, h, r => by
    cases h with
    | cons h1 h2 =>
      cases r with
      | cons r1 r2 =>
        obtain ⟨as, q1, f1⟩ := rep_reads I d _ _ h1 r1
        obtain ⟨bs, q2, f2⟩ := repAll_reads I ds _ _ h2 r2
        refine ⟨_, .cons q1 q2, fun z m => ?_⟩
        have z' : lstless d = true ∧ lstlessAll ds = true := by simpa [lstlessAll] using z
        rcases List.mem_append.mp m with m | m
        · exact f1 z'.1 m
        · exact f2 z'.2 m
end
end
/-- what repr asks of a thing -/
structure Fit (d : PyData) : Prop where
  len : d.shown.length ≤ 1000000
  sh : d.showable = true
  dp : d.depth ≤ 50
  ok : d.hasDict = true → lstless d = true
def rReprQ (K : PySem.W.Frag) (bad : Addr → Prop) : List V → Hp → VK → Prop := fun xs H Q => ∃ v d, xs = [v] ∧ Rep K H bad v d ∧ Fit d ∧ Q (.str d.shown) H
theorem call_reprQ {X : Cx} {k : Nat} (bad : Addr → Prop) (hr : Room k X.A) (hgd : X.A.guards = some []) : CallR X (.builtin "repr") (rReprQ X.K bad) := by
  intro pins s σ H xs us Q I r h
  obtain ⟨v, d, rfl, hv, ⟨fl, fs, fd, fo⟩, q⟩ := h
  cases r with
  | cons r1 r2 =>
    cases r2
    have hz : d.shown.length ≤ sizeLine := Nat.le_trans fl (by decide)
    have hu := hr.units
    obtain ⟨as, rd, hsm⟩ := rep_reads I d v _ hv r1
    cases hv with
    | non => cases r1; exact P.repr_of_none ⟨.str _, H, I.tok _, ⟨_, rfl⟩, q⟩
    | bl b => cases r1; exact P.repr_of_bool ⟨.str _, H, I.tok _, ⟨_, rfl⟩, q⟩
    | int i =>
      obtain ⟨t, rfl⟩ := r1
      exact P.repr_of_int (by simpa [PyData.showable] using fs) ⟨.str _, H, I.tok _, ⟨_, rfl⟩, q⟩
    | str x =>
      obtain ⟨t, rfl⟩ := r1
      exact P.repr_of_str ⟨.str _, H, I.tok _, ⟨_, rfl⟩, q⟩ hz
    | lst _ _ _ => cases r1; exact repr_of_reads' rd fs (fun z => hsm (fo z)) hgd (by omega) (fun _ _ e => e) (fun h' u tk hk => ⟨.str _, H, I.kept hk, ⟨_, rfl⟩, q⟩) hz
    | tup _ _ => cases r1; exact repr_of_reads' rd fs (fun z => hsm (fo z)) hgd (by omega) (fun _ _ e => e) (fun h' u tk hk => ⟨.str _, H, I.kept hk, ⟨_, rfl⟩, q⟩) hz
    | dct _ _ => cases r1; exact repr_of_reads' rd fs (fun z => hsm (fo z)) hgd (by omega) (fun _ _ e => e) (fun h' u tk hk => ⟨.str _, H, I.kept hk, ⟨_, rfl⟩, q⟩) hz
end OC

set_option Elab.async false
set_option linter.all false
set_option maxRecDepth 100000
set_option maxHeartbeats 2000000
/-! xs == [], xs != [], whatever xs holds -/
namespace OC
open PySem PySem.Spec PyProof.Rows L2
def rEqNil : R2 := fun x y H Q => ∃ l b xs, x = .ref l ∧ y = .ref b ∧ H l = some (.lst xs) ∧ H b = some (.lst []) ∧ Q (.bl xs.isEmpty) H
def rNeNil : R2 := fun x y H Q => ∃ l b xs, x = .ref l ∧ y = .ref b ∧ H l = some (.lst xs) ∧ H b = some (.lst []) ∧ Q (.bl (!xs.isEmpty)) H
theorem shaped_nil : SeqAt.shaped (.list []) = true := shaped_ints []
theorem op_eqNil {X : Cx} (hu : X.A.units + 64 < cLine) : OpR X (compareOp .Eq) rEqNil := by
  intro pins s σ H x y v u Q I rx ry h
  obtain ⟨l, b, xs, ex, ey, hl, hb, q⟩ := h
  cases xs with
  | nil =>
    subst ex ey
    exact op_eqD hu pins s σ H _ _ v u Q I rx ry ⟨.list [], .list [], .lst (.inl (.inl hl)) .nil, .lst (.inl (.inl hb)) .nil, shaped_nil, shaped_nil, q⟩
  | cons z r =>
    subst ex ey
    cases rx
    cases ry
    obtain ⟨its, r1, p1, _⟩ := I.list (.inl (.inl hl))
    obtain ⟨its2, r2, p2, _⟩ := I.list (.inl (.inl hb))
    have l1 := r1.length
    have l2 := r2.length
    refine SeqAt.eq_list_lengthsAt p1.isList p2.isList ?_ (by omega) ⟨.bl false, H, I, rfl, q⟩
    rw [List.size_toArray, List.size_toArray, ← l1, ← l2]
    rfl
theorem op_neNil {X : Cx} (hu : X.A.units + 64 < cLine) : OpR X (compareOp .NotEq) rNeNil := by
  intro pins s σ H x y v u Q I rx ry h
  obtain ⟨l, b, xs, ex, ey, hl, hb, q⟩ := h
  cases xs with
  | nil =>
    subst ex ey
    exact op_neD hu pins s σ H _ _ v u Q I rx ry ⟨.list [], .list [], .lst (.inl (.inl hl)) .nil, .lst (.inl (.inl hb)) .nil, shaped_nil, shaped_nil, q⟩
  | cons z r =>
    subst ex ey
    cases rx
    cases ry
    obtain ⟨its, r1, p1, _⟩ := I.list (.inl (.inl hl))
    obtain ⟨its2, r2, p2, _⟩ := I.list (.inl (.inl hb))
    have l1 := r1.length
    have l2 := r2.length
    have hd : (its.toArray.size != its2.toArray.size) = true := by
      rw [List.size_toArray, List.size_toArray, ← l1, ← l2]
      rfl
    exact SeqAt.RcNeAt.lists_lengths p1.isList p2.isList hd (by omega) X.prog X.w X.xe _ ⟨.bl true, H, I, rfl, q⟩
end OC

set_option Elab.async false
set_option linter.all false
set_option maxRecDepth 100000
set_option maxHeartbeats 1000000
/-! things as data: what repr and the judges ask of them -/
namespace OC
open PySem PySem.Spec PyProof.Rows L2
/-- nothing is bad -/
abbrev NB : Addr → Prop := fun _ => False
/-- of ints, tuples of ints, tuples of such -/
def Pu : Nat → PyData → Prop
  | 0, d => ∃ i : Int, d = .int i ∧ -1000000 ≤ i ∧ i ≤ 1000000
  | n + 1, d => ∃ ds : List PyData, d = .tuple ds ∧ ds.length ≤ 30 ∧ ∀ x ∈ ds, Pu n x
def oddD (p : Int) : List PyData := [.none, .bool true, .bool false, .int (-1), .int p, .int 0, .int 1, .int (10 ^ 29), .str "", .str "1", .tuple [], .tuple [.int 0], .list [], .list [.int 0], .dict [], .dict [(.str "a", .int 1)], .int (p - 1), .tuple [.tuple [.int 0]]]
/-- bent: an odd thing, or a pure one with one bent thing within -/
def Bt (p : Int) : Nat → PyData → Prop
  | 0, d => d ∈ oddD p ∨ ∃ i : Int, d = .int i ∧ -10000000 ≤ i ∧ i ≤ 10000000
  | n + 1, d => d ∈ oddD p ∨ (∃ as e bs, d = .tuple (as ++ e :: bs) ∧ as.length ≤ 30 ∧ bs.length ≤ 30 ∧ (∀ x ∈ as, Pu n x) ∧ (∀ x ∈ bs, Pu n x) ∧ Bt p n e) ∨
      (∃ ds, d = .tuple ds ∧ ds.length ≤ 60 ∧ ∀ x ∈ ds, Pu n x) ∨ (∃ ds, d = .list ds ∧ ds.length ≤ 60 ∧ ∀ x ∈ ds, Pu n x)
/-- fit for repr, with bounds -/
structure FitB (B k : Nat) (d : PyData) : Prop where
  len : d.shown.length ≤ B
  sh : d.showable = true
  dp : d.depth ≤ k
  ok : d.hasDict = true → lstless d = true
theorem FitB.mono {B B' k k' : Nat} {d : PyData} (h : FitB B k d) (hB : B ≤ B') (hk : k ≤ k') : FitB B' k' d := ⟨Nat.le_trans h.len hB, h.sh, Nat.le_trans h.dp hk, h.ok⟩
theorem FitB.fit {B k : Nat} {d : PyData} (h : FitB B k d) (hB : B ≤ 1000000) (hk : k ≤ 50) : Fit d := ⟨Nat.le_trans h.len hB, h.sh, Nat.le_trans h.dp hk, h.ok⟩
theorem log_small {i : Int} (h : i.natAbs < 10 ^ 40) : i.natAbs.log2 < 1920 := by
  by_cases hz : i.natAbs = 0
  · rw [hz]
    decide
  · exact (Nat.log2_lt hz).mpr (Nat.lt_of_lt_of_le h (by decide +kernel))
theorem fit_int {i : Int} (h : i.natAbs < 10 ^ 40) : FitB 50 0 (.int i) := by
  refine ⟨?_, ?_, by simp [PyData.depth], by simp [PyData.hasDict]⟩
  · have e := int_text_length_le10 (k := 40) (by decide) h
    show (Str.ofString (toString i)).length ≤ 50
    rw [PySem.ofString_length]
    omega
  · simp only [PyData.showable]
    exact decide_eq_true (log_small h)
theorem sum_le {B : Nat} : ∀ {ts : List Str}, (∀ t ∈ ts, t.length ≤ B) → (ts.map (·.length)).sum ≤ ts.length * B
  | [], _ => by simp
  | t :: r, h => by
    have h1 := h t List.mem_cons_self
    have h2 := sum_le (ts := r) fun x hx => h x (List.mem_cons_of_mem _ hx)
    rw [List.map_cons, List.sum_cons, List.length_cons, Nat.add_mul]
    omega
theorem shownAll_map : ∀ ds : List PyData, PyData.shownAll ds = ds.map PyData.shown
  | [] => by simp [PyData.shownAll]
  | d :: r => by simp [PyData.shownAll, shownAll_map r]
theorem showAll_of : ∀ {ds : List PyData}, (∀ d ∈ ds, d.showable = true) → PyData.showableAll ds = true
  | [], _ => by simp [PyData.showableAll]
  | d :: r, h => by simp [PyData.showableAll, h d List.mem_cons_self, showAll_of (ds := r) fun x hx => h x (List.mem_cons_of_mem _ hx)]
theorem depthAll_of {k : Nat} : ∀ {ds : List PyData}, (∀ d ∈ ds, d.depth ≤ k) → PyData.depthAll ds ≤ k
  | [], _ => by simp [PyData.depthAll]
  | d :: r, h => by
    have h1 := h d List.mem_cons_self
    have h2 := depthAll_of (ds := r) fun x hx => h x (List.mem_cons_of_mem _ hx)
    simp only [PyData.depthAll]
    omega
theorem hasDict_ex : ∀ {ds : List PyData}, PyData.hasDictAll ds = true → ∃ d ∈ ds, d.hasDict = true
  | [], h => by simp [PyData.hasDictAll] at h
  | d :: r, h => by
    have h' : d.hasDict = true ∨ PyData.hasDictAll r = true := by simpa [PyData.hasDictAll] using h
    rcases h' with h | h
    · exact ⟨d, List.mem_cons_self, h⟩
    · obtain ⟨x, m, e⟩ := hasDict_ex h
      exact ⟨x, List.mem_cons_of_mem _ m, e⟩
theorem lstlessAll_of : ∀ {ds : List PyData}, (∀ d ∈ ds, lstless d = true) → lstlessAll ds = true
  | [], _ => by simp [lstlessAll]
  | d :: r, h => by simp [lstlessAll, h d List.mem_cons_self, lstlessAll_of (ds := r) fun x hx => h x (List.mem_cons_of_mem _ hx)]
theorem fit_tuple {B k n : Nat} {ds : List PyData} (hl : ds.length ≤ n) (h : ∀ d ∈ ds, FitB B k d) (ok : PyData.hasDictAll ds = true → lstlessAll ds = true) : FitB (n * (B + 2) + 3) (k + 1) (.tuple ds) := by
  refine ⟨?_, ?_, ?_, ?_⟩
  · simp only [PyData.shown]
    refine Nat.le_trans (tupleText_len_le _) ?_
    rw [shownAll_map, List.length_map]
    have h1 := sum_le (B := B) (ts := ds.map PyData.shown) fun t ht => by
      obtain ⟨d, m, rfl⟩ := List.mem_map.mp ht
      exact (h d m).len
    rw [List.length_map] at h1
    have h2 : ds.length * (B + 2) ≤ n * (B + 2) := Nat.mul_le_mul_right _ hl
    rw [Nat.mul_add] at h2
    omega
  · simp only [PyData.showable]
    exact showAll_of fun d m => (h d m).sh
  · simp only [PyData.depth]
    have := depthAll_of fun d m => (h d m).dp
    omega
  · simp only [PyData.hasDict, lstless]
    exact ok
theorem fit_list {B k n : Nat} {ds : List PyData} (hl : ds.length ≤ n) (h : ∀ d ∈ ds, FitB B k d) (ok : PyData.hasDictAll ds = false) : FitB (n * (B + 2) + 3) (k + 1) (.list ds) := by
  refine ⟨?_, ?_, ?_, ?_⟩
  · simp only [PyData.shown]
    refine Nat.le_trans (listText_len_le _) ?_
    rw [shownAll_map, List.length_map]
    have h1 := sum_le (B := B) (ts := ds.map PyData.shown) fun t ht => by
      obtain ⟨d, m, rfl⟩ := List.mem_map.mp ht
      exact (h d m).len
    rw [List.length_map] at h1
    have h2 : ds.length * (B + 2) ≤ n * (B + 2) := Nat.mul_le_mul_right _ hl
    rw [Nat.mul_add] at h2
    omega
  · simp only [PyData.showable]
    exact showAll_of fun d m => (h d m).sh
  · simp only [PyData.depth]
    have := depthAll_of fun d m => (h d m).dp
    omega
  · simp only [PyData.hasDict, ok]
    exact fun z => nomatch z
theorem fit_odd {p : Int} (hp : p.natAbs < 10 ^ 30) : ∀ {d : PyData}, d ∈ oddD p → FitB 200 3 d := by
  intro d hd
  unfold oddD at hd
  simp only [List.mem_cons, List.not_mem_nil, or_false] at hd
  have big : (10 : Nat) ^ 30 < 10 ^ 40 := by decide
  rcases hd with rfl | rfl | rfl | rfl | rfl | rfl | rfl | rfl | rfl | rfl | rfl | rfl | rfl | rfl | rfl | rfl | rfl | rfl
  case inr.inr.inr.inr.inl => exact (fit_int (by omega)).mono (by omega) (by omega)
  case inr.inr.inr.inr.inr.inr.inr.inr.inr.inr.inr.inr.inr.inr.inr.inr.inl => exact (fit_int (by omega)).mono (by omega) (by omega)
  all_goals exact ⟨by decide +kernel, by decide +kernel, by decide +kernel, by decide +kernel⟩
theorem hasDictAll_no : ∀ {ds : List PyData}, (∀ d ∈ ds, d.hasDict = false) → PyData.hasDictAll ds = false
  | [], _ => by simp [PyData.hasDictAll]
  | d :: r, h => by simp [PyData.hasDictAll, h d List.mem_cons_self, hasDictAll_no (ds := r) fun x hx => h x (List.mem_cons_of_mem _ hx)]
theorem pu_no : ∀ (n : Nat) (d : PyData), Pu n d → d.hasDict = false ∧ lstless d = true
  | 0, _, ⟨i, rfl, _⟩ => by simp [PyData.hasDict, lstless]
  | n + 1, _, ⟨ds, rfl, _, h⟩ => by
    simp only [PyData.hasDict, lstless]
    exact ⟨hasDictAll_no fun d m => (pu_no n d (h d m)).1, lstlessAll_of fun d m => (pu_no n d (h d m)).2⟩
def fB : Nat → Nat
  | 0 => 50
  | n + 1 => 60 * (fB n + 2) + 3
theorem pu_fit : ∀ (n : Nat) (d : PyData), Pu n d → FitB (fB n) n d
  | 0, _, ⟨i, rfl, h1, h2⟩ => fit_int (Nat.lt_of_le_of_lt (show i.natAbs ≤ 1000000 by omega) (by decide))
  | n + 1, _, ⟨ds, rfl, hl, h⟩ => (fit_tuple (n := 60) (by omega) (fun d m => pu_fit n d (h d m)) fun z => by
      rw [hasDictAll_no fun d m => (pu_no n d (h d m)).1] at z
      cases z)
def gB : Nat → Nat
  | 0 => 200
  | n + 1 => 61 * (max (gB n) (fB n) + 2) + 3
theorem gB_ge : ∀ n : Nat, 200 ≤ gB n
  | 0 => by decide
  | n + 1 => by
    have := gB_ge n
    simp only [gB]
    omega
theorem bt_fit {p : Int} (hp : p.natAbs < 10 ^ 30) : ∀ (n : Nat) (d : PyData), Bt p n d → FitB (gB n) (n + 3) d
  | 0, _, .inl h => (fit_odd hp h).mono (Nat.le_refl _) (by omega)
  | 0, _, .inr ⟨i, rfl, h1, h2⟩ => (fit_int (Nat.lt_of_le_of_lt (show i.natAbs ≤ 10000000 by omega) (by decide))).mono (by decide) (by omega)
  | n + 1, _, .inl h => (fit_odd hp h).mono (gB_ge (n + 1)) (by omega)
  | n + 1, _, .inr (.inl ⟨as, e, bs, rfl, la, lb, ha, hb, he⟩) => by
    have fe := bt_fit hp n e he
    refine fit_tuple (n := 61) (B := max (gB n) (fB n)) (k := n + 3) (by rw [List.length_append, List.length_cons]; omega) (fun d m => ?_) (fun z => ?_)
    · rcases List.mem_append.mp m with m | m
      · exact (pu_fit n d (ha d m)).mono (Nat.le_max_right _ _) (by omega)
      · rcases List.mem_cons.mp m with rfl | m
        · exact fe.mono (Nat.le_max_left _ _) (by omega)
        · exact (pu_fit n d (hb d m)).mono (Nat.le_max_right _ _) (by omega)
    · obtain ⟨x, m, hx⟩ := hasDict_ex z
      have ee : e.hasDict = true := by
        rcases List.mem_append.mp m with m | m
        · rw [(pu_no n x (ha x m)).1] at hx
          cases hx
        · rcases List.mem_cons.mp m with rfl | m
          · exact hx
          · rw [(pu_no n x (hb x m)).1] at hx
            cases hx
      refine lstlessAll_of fun d m => ?_
      rcases List.mem_append.mp m with m | m
      · exact (pu_no n d (ha d m)).2
      · rcases List.mem_cons.mp m with rfl | m
        · exact fe.ok ee
        · exact (pu_no n d (hb d m)).2
  | n + 1, _, .inr (.inr (.inl ⟨ds, rfl, hl, h⟩)) => (fit_tuple (n := 61) (B := max (gB n) (fB n)) (k := n + 2) (by omega) (fun d m => (pu_fit n d (h d m)).mono (Nat.le_max_right _ _) (by omega)) fun z => by
      rw [hasDictAll_no fun d m => (pu_no n d (h d m)).1] at z
      cases z).mono (Nat.le_refl _) (by omega)
  | n + 1, _, .inr (.inr (.inr ⟨ds, rfl, hl, h⟩)) => (fit_list (n := 61) (B := max (gB n) (fB n)) (k := n + 2) (by omega) (fun d m => (pu_fit n d (h d m)).mono (Nat.le_max_right _ _) (by omega)) (hasDictAll_no fun d m => (pu_no n d (h d m)).1)).mono (Nat.le_refl _) (by omega)
/-- a row of rests, by data -/
def restD (p : Int) : PyData → Bool
  | .int i => decide (0 ≤ i) && decide (i < p)
  | _ => false
def isRowD (p n : Int) : PyData → Bool
  | .tuple ds => decide ((ds.length : Int) = n) && ds.all (restD p)
  | _ => false
/-- a tuple's length is within bounds -/
def lenOk : PyData → Prop
  | .tuple ds => ds.length ≤ 1000
  | _ => True
theorem rep_int_inv {K : PySem.W.Frag} {H : Hp} {bad : Addr → Prop} {i : Int} {d : PyData} (h : Rep K H bad (.int i) d) : d = .int i := by cases h; rfl
theorem rep_tup {K : PySem.W.Frag} {H : Hp} {bad : Addr → Prop} {v : V} {ds : List PyData} (h : Rep K H bad v (.tuple ds)) : ∃ a xs, v = .ref a ∧ SqT K H a xs ∧ RepAll K H bad xs ds := by
  cases h with
  | tup h1 h2 => exact ⟨_, _, rfl, h1, h2⟩
theorem row_rep {K : PySem.W.Frag} {H : Hp} {bad : Addr → Prop} {a : Addr} {r : List Int} (h : SqT K H a (r.map V.int)) : Rep K H bad (.ref a) (rowD r) := .tup h (repAll_ints r)
end OC

set_option Elab.async false
set_option linter.all false
set_option maxRecDepth 100000
set_option maxHeartbeats 1000000
/-! slices and sums of tuples, whichever tuple is told -/
namespace OC
open PySem PySem.Spec PyProof.Rows L2
theorem cut_whole {xs : List V} {lo hi : Option Int} (h : HT.sIx xs.length 0 lo = 0 ∧ HT.sIx xs.length xs.length hi = xs.length) : cutV xs lo hi = xs := by
  unfold cutV
  rw [h.1, h.2, List.drop_zero, Nat.sub_zero, List.take_length]
def rSlB (K : PySem.W.Frag) : V → Option Int → Option Int → Hp → VK → Prop := fun x lo hi H Q => ∃ a xs, x = .ref a ∧ SqT K H a xs ∧ ∀ p H', Same H H' → SqT K H' p (cutV xs lo hi) → Q (.ref p) H'
theorem sl_tupB {X : Cx} : SlR X (rSlB X.K) := by
  intro pins s σ H x v vl vu lo hi sl Q I rx hs pl pu h
  obtain ⟨a, xs, ex, hx, q⟩ := h
  exact sl_tupA pins s σ H x v vl vu lo hi sl Q I rx hs pl pu ⟨a, xs, ex, hx, fun hw => q a H (Same.refl H) (by rw [cut_whole hw]; exact hx), fun _ p np => q p _ (same_upd np) (.inl (.inl upd_same))⟩
def rCatB (K : PySem.W.Frag) : R2 := fun x y H Q => ∃ a b xs ys, x = .ref a ∧ y = .ref b ∧ SqT K H a xs ∧ SqT K H b ys ∧ xs.length + ys.length ≤ sizeLine ∧ ∀ p H', Same H H' → SqT K H' p (xs ++ ys) → Q (.ref p) H'
theorem op_catB {X : Cx} : OpR X (binaryOp .Add) (rCatB X.K) := by
  intro pins s σ H x y v u Q I rx ry h
  obtain ⟨a, b, xs, ys, ex, ey, hx, hy, hz, q⟩ := h
  refine op_catA pins s σ H x y v u Q I rx ry ⟨a, b, xs, ys, ex, ey, hx, hy, hz, fun z => q b H (Same.refl H) ?_, fun _ z => q a H (Same.refl H) ?_, fun _ _ p np => q p _ (same_upd np) (.inl (.inl upd_same))⟩
  · rw [z, List.nil_append]
    exact hy
  · rw [z, List.append_nil]
    exact hx
theorem cut_to {xs : List V} {i : Int} (h0 : 0 ≤ i) (h1 : i ≤ xs.length) : cutV xs none (some i) = xs.take i.toNat := by
  unfold cutV
  have e : HT.sIx xs.length xs.length (some i) = min i.toNat xs.length := by
    have := HT.sIx_nat xs.length xs.length i.toNat
    rw [show ((i.toNat : Nat) : Int) = i by omega] at this
    exact this
  rw [e, HT.sIx_none, List.drop_zero, Nat.sub_zero]
  congr 1
  omega
theorem cut_from {xs : List V} {i : Int} (h0 : 0 ≤ i) (h1 : i ≤ xs.length) : cutV xs (some i) none = xs.drop i.toNat := by
  unfold cutV
  have e : HT.sIx xs.length 0 (some i) = min i.toNat xs.length := by
    have := HT.sIx_nat xs.length 0 i.toNat
    rw [show ((i.toNat : Nat) : Int) = i by omega] at this
    exact this
  rw [e, HT.sIx_none, show min i.toNat xs.length = i.toNat by omega]
  exact List.take_of_length_le (by rw [List.length_drop]; omega)
/-- any cut is a sublist of neighbours -/
theorem cut_mem {xs : List V} {lo hi : Option Int} : ∃ i k, cutV xs lo hi = (xs.drop i).take k := ⟨_, _, rfl⟩
section
variable {K : PySem.W.Frag} {H : Hp} {bad : Addr → Prop}
theorem repAll_take : ∀ {xs : List V} {ds : List PyData} (k : Nat), RepAll K H bad xs ds → RepAll K H bad (xs.take k) (ds.take k)
  | _, _, 0, _ => .nil
  | _, _, _ + 1, .nil => .nil
  | _, _, k + 1, .cons h t => .cons h (repAll_take k t)
theorem repAll_drop : ∀ {xs : List V} {ds : List PyData} (k : Nat), RepAll K H bad xs ds → RepAll K H bad (xs.drop k) (ds.drop k)
  | _, _, 0, h => h
  | _, _, _ + 1, .nil => .nil
  | _, _, k + 1, .cons _ t => repAll_drop k t
theorem repAll_rev {xs : List V} {ds : List PyData} (h : RepAll K H bad xs ds) : RepAll K H bad xs.reverse ds.reverse := by
  induction ds generalizing xs with
  | nil => cases h; exact .nil
  | cons d r ih =>
    cases h with
    | cons h1 h2 =>
      rw [List.reverse_cons, List.reverse_cons]
      exact repAll_append (ih h2) (.cons h1 .nil)
end
mutual
theorem rep_weak {K : PySem.W.Frag} {b1 b2 : Addr → Prop} {H : Hp} (e : ∀ a, b2 a → b1 a) : ∀ (d : PyData) (v : V), Rep K H b1 v d → Rep K H b2 v d
  | .none, _, h => by cases h; exact .non
  | .bool b, _, h => by cases h; exact .bl b
  | .int i, _, h => by cases h; exact .int i
  | .str x, _, h => by cases h; exact .str x
  | .list ds, _, h => by
    cases h with
    | lst hs hb ha => exact .lst hs (fun z => hb (e _ z)) (repAll_weak e ds _ ha)
  | .tuple ds, _, h => by
    cases h with
    | tup hs ha => exact .tup hs (repAll_weak e ds _ ha)
  | .dict _, _, h => by
    cases h with
    | dct hs hf => exact .dct hs hf
theorem repAll_weak {K : PySem.W.Frag} {b1 b2 : Addr → Prop} {H : Hp} (e : ∀ a, b2 a → b1 a) : ∀ (ds : List PyData) (vs : List V), RepAll K H b1 vs ds → RepAll K H b2 vs ds
  | [], _, h => by cases h; exact .nil
  | d :: ds, _, h => by
    cases h with
    | cons h1 h2 => exact .cons (rep_weak e d _ h1) (repAll_weak e ds _ h2)
end
/-- a pure thing holds no list: it is a thing whatever is bad, and stays as tuples do -/
theorem rep_pure {K : PySem.W.Frag} {b1 b2 : Addr → Prop} {H H' : Hp} (t : Tk H H') : ∀ (n : Nat) (d : PyData) (v : V), Pu n d → Rep K H b1 v d → Rep K H' b2 v d
  | 0, _, _, ⟨i, e, _⟩, h => by
    subst e
    cases h
    exact .int i
  | n + 1, _, _, ⟨ds, e, _, hp⟩, h => by
    subst e
    cases h with
    | tup hs ha =>
      refine .tup (t _ _ _ hs) ?_
      have go : ∀ (ds : List PyData) (xs : List V), (∀ x ∈ ds, Pu n x) → RepAll K H b1 xs ds → RepAll K H' b2 xs ds := by
        intro ds
        induction ds with
        | nil => intro xs _ h; cases h; exact .nil
        | cons d r ih =>
          intro xs hp h
          cases h with
          | cons h1 h2 => exact .cons (rep_pure t n d _ (hp d List.mem_cons_self) h1) (ih _ (fun x hx => hp x (List.mem_cons_of_mem _ hx)) h2)
      exact go ds _ hp ha
theorem repAll_pure {K : PySem.W.Frag} {b1 b2 : Addr → Prop} {H H' : Hp} (t : Tk H H') (n : Nat) : ∀ (ds : List PyData) (xs : List V), (∀ x ∈ ds, Pu n x) → RepAll K H b1 xs ds → RepAll K H' b2 xs ds
  | [], _, _, h => by cases h; exact .nil
  | d :: r, _, hp, h => by
    cases h with
    | cons h1 h2 => exact .cons (rep_pure t n d _ (hp d List.mem_cons_self) h1) (repAll_pure t n r _ (fun x hx => hp x (List.mem_cons_of_mem _ hx)) h2)
end OC

set_option Elab.async false
set_option linter.all false
set_option maxRecDepth 100000
set_option maxHeartbeats 1000000
/-! comprehensions over lists and tuples of things -/
namespace OC
open PySem PySem.Spec PyProof.Rows L2
mutual
theorem rep_fresh {K : PySem.W.Frag} {bad : Addr → Prop} {H : Hp} {B : Addr} (n : H B = none) : ∀ (d : PyData) (v : V), Rep K H bad v d → Rep K H (fun a => bad a ∨ a = B) v d
  | .none, _, h => by cases h; exact .non
  | .bool b, _, h => by cases h; exact .bl b
  | .int i, _, h => by cases h; exact .int i
  | .str x, _, h => by cases h; exact .str x
  | .list ds, _, h => by
    cases h with
    | lst hs hb ha => exact .lst hs (fun z => z.elim hb (fun e => by subst e; rw [n] at hs; cases hs)) (repAll_fresh n ds _ ha)
  | .tuple ds, _, h => by
    cases h with
    | tup hs ha => exact .tup hs (repAll_fresh n ds _ ha)
  | .dict _, _, h => by
    cases h with
    | dct hs hf => exact .dct hs hf
theorem repAll_fresh {K : PySem.W.Frag} {bad : Addr → Prop} {H : Hp} {B : Addr} (n : H B = none) : ∀ (ds : List PyData) (vs : List V), RepAll K H bad vs ds → RepAll K H (fun a => bad a ∨ a = B) vs ds
  | [], _, h => by cases h; exact .nil
  | d :: ds, _, h => by
    cases h with
    | cons h1 h2 => exact .cons (rep_fresh n d _ h1) (repAll_fresh n ds _ h2)
end
theorem upd_stays {bad : Addr → Prop} {H H' : Hp} {D : Addr} {xs ys : List V} (s : Stays bad H H') (h : H' D = some (.lst xs)) (bD : bad D) : Stays bad H (upd H' D (.lst ys)) := by
  refine ⟨s.t.mut h, fun a zs q => ?_, fun a zs q n => ?_⟩
  · have := s.d a zs q
    rw [upd_ne (fun z => by subst z; rw [h] at this; cases this)]
    exact this
  · rw [upd_ne (fun z => n (by rw [z]; exact bD))]
    exact s.l a zs q n
theorem Same.some {H H' : Hp} (s : Same H H') {a : Addr} (h : H a ≠ none) : H' a ≠ none := by
  rcases hq : H a with _ | o
  · exact absurd hq h
  · rw [s a o hq]
    exact fun z => nomatch z
/-- what is new at D or behind H -/
abbrev NewBy (H : Hp) (D : Addr) : Addr → Prop := fun a => H a ≠ none ∨ a = D
/-- a comprehension [f(x) for x in xs]: each thing to a thing, new ones alone -/
theorem lc_mapR {K : PySem.W.Frag} {J : It} {G : Hp → Prop} {vs : List V} {ds : List PyData} {σ : L2.St} {H : Hp} {Qd : Addr → Hp → Prop} {i : Nat} {sl : List Nat} {te : TE} (F : PyData → PyData)
    (w : Walk J vs.length G (YAt vs)) (hG : ∀ H', Same H H' → G H') (hD : RepAll K H NB vs ds) (hz : vs.length ≤ 1000) (hw : ∀ x : Option V, wipe ((wipe σ sl).set i x) sl = wipe σ sl)
    (hte : ∀ (v : V) (d : PyData) (H' : Hp) (Q' : VK), d ∈ ds → Rep K H' NB v d → Same H H' → (∀ v' H'', Same H' H'' → Rep K H'' (fun a => H' a ≠ none) v' (F d) → Q' v' H'') → te ((wipe σ sl).set i (some v)) H' Q')
    (hd : ∀ D H' ws, Same H H' → H D = none → H' D = some (.lst ws) → RepAll K H' (NewBy H D) ws (ds.map F) → Qd D H') :
    LcGoal J (gName i) tYes te sl σ H Qd := by
  intro D nD
  have lv := repAll_len hD
  refine lc_it w (fun k H' => Same H H' ∧ ∃ ws, H' D = some (.lst ws) ∧ ws.length = k ∧ RepAll K H' (NewBy H D) ws ((ds.take k).map F)) ⟨same_mut (Same.refl H) nD, [], upd_same, rfl, .nil⟩ (fun k H' _ hP => hG H' hP.1) (fun k x H1 H2 hk hP hY => ?_) (fun H' hP => ?_)
  · obtain ⟨rfl, e1⟩ := hY
    obtain ⟨sm, ws, eD, lw, rw_⟩ := hP
    obtain ⟨d, g, md, rx⟩ := repAll_get hD e1
    refine ⟨hw _, hte x d _ _ md (rep_stays (Stays.of sm) _ _ rx) sm fun v' H'' s2 rv => ?_⟩
    have eD2 := s2 _ _ eD
    refine ⟨ws, eD2, small1000 (by omega), same_mut (sm.trans s2) nD, ws ++ [v'], upd_same, by rw [List.length_append, lw]; rfl, ?_⟩
    rw [List.take_add_one, g, List.map_append]
    refine repAll_append (repAll_stays (upd_stays (Stays.of s2) eD2 (.inr rfl)) _ _ rw_) (.cons ?_ .nil)
    refine rep_stays (upd_stays (Stays.of (Same.refl H'')) eD2 (.inr rfl)) _ _ (rep_weak (fun a ha => ?_) _ _ rv)
    rcases ha with h | h
    · exact Same.some sm h
    · subst h
      rw [eD]
      exact fun z => nomatch z
  · obtain ⟨sm, ws, eD, lw, rw_⟩ := hP
    rw [List.take_of_length_le (by omega)] at rw_
    exact hd D H' ws sm nD eD rw_
/-- [x for x in xs if t] -/
theorem lc_filterR {K : PySem.W.Frag} {J : It} {G : Hp → Prop} {vs : List V} {ds : List PyData} {σ : L2.St} {H : Hp} {Qd : Addr → Hp → Prop} {i : Nat} {sl : List Nat} {tt : TT} (q : PyData → Bool)
    (w : Walk J vs.length G (YAt vs)) (hG : ∀ H', Same H H' → G H') (hD : RepAll K H NB vs ds) (hz : vs.length ≤ 1000) (hw : ∀ x : Option V, wipe ((wipe σ sl).set i x) sl = wipe σ sl) (hi : i < (wipe σ sl).length)
    (htt : ∀ (v : V) (d : PyData) (H' : Hp) (Q' : Bool → Hp → Prop), d ∈ ds → Rep K H' NB v d → Same H H' → (∀ H'', Same H' H'' → Q' (q d) H'') → tt ((wipe σ sl).set i (some v)) H' Q')
    (hd : ∀ D H' ws, Same H H' → H D = none → H' D = some (.lst ws) → RepAll K H' NB ws (ds.filter q) → Qd D H') :
    LcGoal J (gName i) tt (tVar i) sl σ H Qd := by
  intro D nD
  have lv := repAll_len hD
  have hDf := repAll_fresh nD _ _ hD
  refine lc_it w (fun k H' => Same H H' ∧ ∃ ws, H' D = some (.lst ws) ∧ ws.length ≤ k ∧ RepAll K H' (fun a => NB a ∨ a = D) ws ((ds.take k).filter q)) ⟨same_mut (Same.refl H) nD, [], upd_same, Nat.le_refl _, .nil⟩ (fun k H' _ hP => hG H' hP.1) (fun k x H1 H2 hk hP hY => ?_) (fun H' hP => ?_)
  · obtain ⟨rfl, e1⟩ := hY
    obtain ⟨sm, ws, eD, lw, rw_⟩ := hP
    obtain ⟨d, g, md, rx⟩ := repAll_get hD e1
    obtain ⟨d', g', _, rx'⟩ := repAll_get hDf e1
    have edd : d' = d := Option.some.inj (g'.symm.trans g)
    subst edd
    refine ⟨hw _, htt x d' _ _ md (rep_stays (Stays.of sm) _ _ rx) sm fun H'' s2 => ?_⟩
    have eD2 := s2 _ _ eD
    have tk : (ds.take (k + 1)).filter q = (ds.take k).filter q ++ (if q d' = true then [d'] else []) := by
      rw [List.take_add_one, g, List.filter_append]
      congr 1
      by_cases hq : q d' = true
      · simp [hq]
      · simp [hq]
    by_cases hq : q d' = true
    · rw [hq]
      refine iteT ⟨x, by rw [List.getElem?_set_self hi], ws, eD2, small1000 (by omega), same_mut (sm.trans s2) nD, ws ++ [x], upd_same, by rw [List.length_append]; simp; omega, ?_⟩
      rw [tk, if_pos hq]
      refine repAll_append (repAll_stays (upd_stays (Stays.of s2) eD2 (.inr rfl)) _ _ rw_) (.cons ?_ .nil)
      exact rep_stays (upd_stays (Stays.of (sm.trans s2)) eD2 (.inr rfl)) _ _ rx'
    · have hq' : q d' = false := by simpa using hq
      rw [hq']
      refine iteF ⟨sm.trans s2, ws, eD2, by omega, ?_⟩
      rw [tk, if_neg hq, List.append_nil]
      exact repAll_stays (Stays.of s2) _ _ rw_
  · obtain ⟨sm, ws, eD, lw, rw_⟩ := hP
    rw [List.take_of_length_le (by omega)] at rw_
    exact hd D H' ws sm nD eD (repAll_weak (fun _ h => h.elim) _ _ rw_)
/-- ints of a list of ints -/
theorem lc_listI {K : PySem.W.Frag} {a : Addr} {xs : List Int} {σ : L2.St} {H : Hp} {Qd : Addr → Hp → Prop} {i : Nat} {vs : List Nat} {te : TE} (f : Int → Int) (hA : SqL K H a (xs.map V.int)) (hz : xs.length ≤ 1000)
    (hw : ∀ x : Option V, wipe ((wipe σ vs).set i x) vs = wipe σ vs)
    (hte : ∀ (x : Int) (H' : Hp) (Q' : VK), x ∈ xs → Same H H' → Q' (.int (f x)) H' → te ((wipe σ vs).set i (some (.int x))) H' Q')
    (hd : ∀ D H', Same H H' → H D = none → H' D = some (.lst ((xs.map f).map V.int)) → Qd D H') :
    LcGoal (Itl K a) (gName i) tYes te vs σ H Qd := by
  intro D nD
  refine lc_it (walk_list (K := K) (a := a) (xs := xs.map V.int)) (fun k H' => Same H H' ∧ H' D = some (.lst (((xs.map f).take k).map V.int))) ⟨same_mut (Same.refl H) nD, upd_same⟩ (fun k H' _ hP => hP.1.seq hA) (fun k x H1 H2 hk hP hY => ?_) (fun H' hP => hd D H' hP.1 nD ?_)
  · obtain ⟨rfl, e1⟩ := hY
    obtain ⟨sm, eD⟩ := hP
    rw [List.getElem?_map] at e1
    cases h1 : xs[k]? with
    | none => rw [h1] at e1; cases e1
    | some z1 =>
      rw [h1] at e1
      have q1 : x = V.int z1 := (Option.some.inj e1).symm
      subst q1
      refine ⟨hw _, hte z1 _ _ (List.mem_of_getElem? h1) sm ⟨_, eD, ?_, same_mut sm nD, ?_⟩⟩
      · rw [List.length_map, List.length_take, List.length_map]
        exact small1000 (by omega)
      · rw [upd_same, List.take_add_one, List.getElem?_map, h1, List.map_append]
        rfl
  · obtain ⟨sm, eD⟩ := hP
    rw [eD, List.take_of_length_le]
    rw [List.length_map, List.length_map]
    exact Nat.le_refl _
theorem lc_zipLI {K : PySem.W.Frag} {a b : Addr} {xs ys : List Int} {σ : L2.St} {H : Hp} {Qd : Addr → Hp → Prop} {i j : Nat} {vs : List Nat} {te : TE} (f : Int → Int → Int) (hA : SqL K H a (xs.map V.int)) (hB : SqL K H b (ys.map V.int)) (hz : xs.length ≤ 1000)
    (hw : ∀ x y : Option V, wipe (((wipe σ vs).set i x).set j y) vs = wipe σ vs)
    (hte : ∀ (x y : Int) (H' : Hp) (Q' : VK), x ∈ xs → y ∈ ys → Same H H' → Q' (.int (f x y)) H' → te (((wipe σ vs).set i (some (.int x))).set j (some (.int y))) H' Q')
    (hd : ∀ D H', Same H H' → H D = none → H' D = some (.lst ((List.zipWith f xs ys).map V.int)) → Qd D H') :
    LcGoal (Itz K a b) (gTup K 2 (gCons (gName i) (gCons (gName j) gNil))) tYes te vs σ H Qd := by
  intro D nD
  refine lc_it (walk_zip (K := K) (a := a) (b := b) (xs := xs.map V.int) (ys := ys.map V.int) rfl) (fun k H' => Same H H' ∧ H' D = some (.lst (((List.zipWith f xs ys).take k).map V.int))) ⟨same_mut (Same.refl H) nD, upd_same⟩ (fun k H' _ hP => ⟨hP.1.seq hA, hP.1.seq hB⟩) (fun k x H1 H2 hk hP hY => ?_) (fun H' hP => hd D H' hP.1 nD ?_)
  · obtain ⟨Ta, x1, y1, rfl, nT, rfl, e1, e2⟩ := hY
    obtain ⟨sm, eD⟩ := hP
    have sT : Same H1 (upd H1 Ta (.tup [x1, y1])) := same_upd nT
    have e1 : (xs.map V.int)[k]? = some x1 := e1
    have e2 : (ys.map V.int)[k]? = some y1 := e2
    rw [List.getElem?_map] at e1 e2
    cases h1 : xs[k]? with
    | none => rw [h1] at e1; cases e1
    | some z1 =>
      cases h2 : ys[k]? with
      | none => rw [h2] at e2; cases e2
      | some z2 =>
        rw [h1] at e1
        rw [h2] at e2
        have q1 : x1 = V.int z1 := (Option.some.inj e1).symm
        have q2 : y1 = V.int z2 := (Option.some.inj e2).symm
        subst q1 q2
        refine ⟨Ta, [.int z1, .int z2], rfl, .inl (.inl upd_same), rfl, .int z1, [.int z2], rfl, .int z2, [], rfl, rfl, hw _ _, ?_⟩
        refine hte z1 z2 _ _ (List.mem_of_getElem? h1) (List.mem_of_getElem? h2) (sm.trans sT) ⟨_, sT _ _ eD, ?_, same_mut (sm.trans sT) nD, ?_⟩
        · rw [List.length_map, List.length_take, List.length_zipWith]
          exact small1000 (by omega)
        · rw [upd_same, List.take_add_one, List.getElem?_zipWith, h1, h2, List.map_append]
          rfl
  · obtain ⟨sm, eD⟩ := hP
    rw [eD, List.take_of_length_le]
    rw [List.length_zipWith, List.length_map, List.length_map]
    exact Nat.le_refl _
end OC

set_option Elab.async false
set_option linter.all false
set_option maxRecDepth 100000
set_option maxHeartbeats 2000000
/-! enumerate(t) of a tuple, in a for -/
namespace OC
open PySem PySem.Spec PyProof.Rows L2
open Sem (wp)
theorem meets_enum1 {v : Value} {ob : Obj} {G : Heap → Prop} (B : Begins v ob G) : Meets (Builtin.«enumerate.__new__» ⟨[.type "enumerate", v], []⟩) (fun _ R s => G s.heap ∧ R (.ok (.ret (.ref (s.heap.push ob).objs.size))) { s with heap := (s.heap.push ob).push { cls := .type "enumerate", data := .fields #[.none, .bool false, .ref s.heap.objs.size, rawInt 0, .none, .none] } }) :=
  .of_wp fun P w A R s z => by
    obtain ⟨hp, g, d, tk, os⟩ := s
    obtain ⟨z1, z⟩ := z
    have hsub := sub_enumerate
    have q1 : ∀ {A' : Around} {E' : Value → Shared → Prop} {Q' : Value → Shared → Prop}, Q' (.ref hp.objs.size) ⟨hp.push ob, g, d, tk, os⟩ → wpAny (model P w) A' (pyIter v) Q' E' ⟨hp, g, d, tk, os⟩ := fun y => B.iter P w _ _ ⟨hp, g, d, tk, os⟩ _ z1 y
    wp_walk using q1
    refine wpAny_stack_any fun _ => wpAny_pure ?_
    split
    · rename_i c _ _ _ _ _
      cases (c == Value.type "enumerate") <;> (wp_walk using q1; exact ⟨_, rfl, z⟩)
    · wp_walk using q1
      exact ⟨_, rfl, z⟩
section
variable {P : Program} {w : World} {A : Around} {E : Value → Shared → Prop} {s : Shared}
theorem call_enumB {v : Value} {ob : Obj} {G : Heap → Prop} {Q : Value → Shared → Prop} (B : Begins v ob G) (g : G s.heap)
    (q : ∀ h1 : Heap, IsEnum h1 (s.heap.objs.size + 1) s.heap.objs.size 0 .none → h1.get? s.heap.objs.size = some ob → (∀ b o, s.heap.get? b = some o → h1.get? b = some o) → Q (.ref (s.heap.objs.size + 1)) { s with heap := h1 }) : wpAny (model P w) A (call (.type "enumerate") [v]) Q E s := by
  refine callType_new F.called_enumerate (by decide) (F.typeCall_enumerate_1 _) (F.newCall_enumerate_1 _) (fun z => F.args_object_init_2 z _) F.entry_enumerate_new (meets_enum1 B) ⟨g, ?_⟩
  have sz : (s.heap.push ob).objs.size = s.heap.objs.size + 1 := Heap.size_push ..
  show _ ∧ _
  rw [sz]
  have en : IsEnum ((s.heap.push ob).push { cls := .type "enumerate", data := .fields #[.none, .bool false, .ref s.heap.objs.size, rawInt 0, .none, .none] }) (s.heap.objs.size + 1) s.heap.objs.size 0 .none := by
    have z := Heap.get?_push_size (s.heap.push ob) (o := { cls := .type "enumerate", data := .fields #[.none, .bool false, .ref s.heap.objs.size, rawInt 0, .none, .none] }) rfl
    rw [sz] at z
    exact z
  exact ⟨⟨_, en, rfl⟩, q _ en (Heap.get?_push_of_some _ (Heap.get?_push_size _ B.free)) fun b o z => Heap.get?_push_of_some _ (Heap.get?_push_of_some _ z)⟩
end
/-- the tuple at a, each item in a new pair -/
def IteT (K : PySem.W.Frag) (a : Addr) : It :=
  ⟨fun i H => ∃ (xs : List V) (x : V), SqT K H a xs ∧ xs[i]? = some x,
   fun i H v H' => ∃ T x, v = .ref T ∧ H T = none ∧ H' = upd H T (.tup [.int (i : Nat), x]) ∧ ∀ xs, SqT K H a xs → xs[i]? = some x,
   fun i H => ∃ xs : List V, SqT K H a xs ∧ xs.length ≤ i⟩
theorem turn_enumT {P : Program} {w : World} {K : PySem.W.Frag} {elts : List Expr} {kk : Nat} {tp : Pos} (a e it : Addr) :
    Turn P w K (.Tuple elts kk tp) (IteT K a) [e, it] e (fun i h => (∃ old, IsEnum h e it ((i : Nat) : Int) old) ∧ h.IsTupleIter it a i ∧ e ≠ it) where
  mem := by simp
  obj := fun i h st b hb => by
    obtain ⟨⟨old, he⟩, ⟨o, ho, hc, hd⟩, _⟩ := st
    rcases (by simpa using hb : b = e ∨ b = it) with z | z
    · subst z; exact ⟨_, he, fun v y => nomatch y⟩
    · subst z; exact ⟨o, ho, fun v y => by rw [hd] at y; cases y⟩
  keep := fun i h h' st k => by
    obtain ⟨⟨old, he⟩, hi, ne⟩ := st
    exact ⟨⟨old, k e (by simp) _ he⟩, hi.at fun o y => k it (by simp) o y, ne⟩
  item := by
    intro X hP hw hK hc i pins s σ H E I hf st hg
    subst hP hw hK
    obtain ⟨⟨old, he⟩, hit, ne⟩ := st
    obtain ⟨xs, x, hq, hx⟩ := hg
    obtain ⟨its, rv, tp, hz⟩ := I.tuple hq
    obtain ⟨u, hu, ru⟩ := rv.get hx
    have hel : e < s.heap.objs.size := Heap.lt_size he
    have hil : it < s.heap.objs.size := by obtain ⟨_, y, _⟩ := hit; exact Heap.lt_size y
    have ta : s.heap.IsTuple a its.toArray := tp
    have ai : a ≠ it := fun z => by
      obtain ⟨o1, g1, c1, _⟩ := ta
      obtain ⟨o2, g2, c2, _⟩ := hit
      rw [z, g2] at g1
      rw [← Option.some.inj g1, c2] at c1
      exact absurd (Value.type.inj c1) (by decide)
    have ea : e ≠ a := fun z => by
      obtain ⟨o1, g1, c1, _⟩ := ta
      have he' : s.heap.get? e = some _ := he
      rw [z, g1] at he'
      have := Option.some.inj he'
      rw [this] at c1
      exact absurd (Value.type.inj c1) (by decide)
    have hlt : i < its.toArray.size := by
      have := (List.getElem?_eq_some_iff.mp hu).1
      simpa using this
    refine wpAny_pyNext_enum_itemD (Draws.tuple (A := X.A.in1) (I.ok.hd hc) it a ai its.toArray) he ⟨hit, ta⟩ hlt ne (by simp [ne, ea]) fun u' h1 tk hu' ho st1 hT hsz hk => ?_
    have eu : u' = u := by
      have e1 : its.toArray[i]? = some u := by simpa using hu
      rw [e1] at hu'
      exact (Option.some.inj hu').symm
    subst eu
    refine ⟨_, rfl, wpAny_letOwnedTupleGo_enum (s := { s with heap := h1, toks := tk + 1 }) ho fun h2 he' sb => ?_⟩
    have hT2 : h2.get? s.heap.objs.size = some { cls := .type "tuple", data := .seq #[.int i tk, u'] } := (sb.2 _ (Nat.ne_of_gt hel)).trans hT
    have new : ObjOk X.prog X.w (upd H s.heap.objs.size (.tup [.int (i : Nat), x])) h2 s.heap.objs.size (.tup [.int (i : Nat), x]) := ⟨(by decide : 2 ≤ sizeLine), [.int i tk, u'], .cons ⟨_, rfl⟩ (.cons ru .nil), ⟨_, hT2, rfl, _, rfl⟩⟩
    have I1 : Inv X pins σ (upd H s.heap.objs.size (.tup [.int (i : Nat), x])) { s with heap := h2, toks := tk + 1 } :=
      I.turnedNew (t' := tk + 1) (ch := [e, it]) (fun b ob nb y => (sb.2 b (fun z => nb (by simp [z]))).trans (hk b ob (fun z => nb (by simp [z])) (fun z => nb (by simp [z])) y)) hf (Nat.le_refl _) new
    refine ⟨.ref s.heap.objs.size, _, I1, rfl, ⟨_, x, rfl, I.hok.fresh (Nat.le_refl _), rfl, fun ys hy => by rw [I.tuple_inj hy hq]; exact hx⟩, ⟨⟨u', ?_⟩, st1.1.at fun o y => (sb.2 it (Ne.symm ne)).trans y, ne⟩, fun b hb => ?_⟩
    · rw [show ((i + 1 : Nat) : Int) = (i : Int) + 1 from by omega]
      exact he'
    · have lb : b < s.heap.objs.size := by
        rcases (by simpa using hb : b = e ∨ b = it) with z | z
        · exact z ▸ hel
        · exact z ▸ hil
      rw [upd_ne (Nat.ne_of_lt lb)]
      exact (hf b hb).1
  done := by
    intro X hP hw hK hc i pins s σ H E I hf st hg
    subst hP hw hK
    obtain ⟨⟨old, he⟩, hit, ne⟩ := st
    obtain ⟨xs, hq, hx⟩ := hg
    obtain ⟨its, rv, tp, hz⟩ := I.tuple hq
    obtain ⟨f0, f1, f2, f3, f4, f5⟩ := hf it (by simp)
    have ta : s.heap.IsTuple a its.toArray := tp
    have hl := rv.length
    have hh : X.A.in1.handled = none := I.ok.hd hc
    have hT : s.TypeIs (.ref e) "enumerate" := ⟨_, he, rfl⟩
    unfold pyNext
    refine wpAny_bind (wpAny_attempt (wpAny_callSpecial?_slot (name := Str.ofString "__next__") hT F.slot_enumerate_next (wpAny_call_entry F.slot_enumerate_next hT F.entry_enumerate_next ?_ (F.args_enumerate_next_1 _))))
    show wpAny _ _ (field (.ref e) 2 >>= _) _ _ s
    refine wpAny_bind (wpAny_field he rfl (x := .ref it) rfl (wpAny_bind (wpAny_nextOf_tuple_end hh hit ta (by simp; omega) fun h1 x eb hx' => ?_)))
    obtain ⟨o, ho, hcl⟩ := hx'
    refine wpAny_bind (wpAny_isInstance (T := "StopIteration") (b := true) ⟨o, ho, hcl⟩ isSubtype_stop (wpAny_pure ?_))
    exact ⟨rfl, I.turned (t' := s.toks) (fun b o nb y => eb b o nb y) f0 f1 f3 f4 f5⟩
  self := fun A i s Q E st h => by
    obtain ⟨⟨_, he⟩, _⟩ := st
    exact wpAny_pyIter_enum he h
def iEnumT (K : PySem.W.Frag) (ta : TA) : TI := fun σ H R => ta σ H fun vs H1 => ∃ a xs, vs = [.ref a] ∧ SqT K H1 a xs ∧ R (IteT K a) H1
theorem pi_enumT {X : Cx} {e : Expr} {ta : TA} {p pos tpos : Pos} {elts : List Expr} {kk : Nat} (hg : Gl X "enumerate") (hm : X.mg "enumerate" = none) (ha : PA X [e] ta) (hs : starEach [e] X.env = [(false, eval e X.env)] := by rfl) : PI X (.Tuple elts kk tpos) (.Call (.Name "enumerate" p) [e] [] pos) (iEnumT X.K ta) := by
  refine ⟨fun pins s σ H R I h => Call_ (ld_blt I hg hm boot_enumerate (PyProof.Rows.callWith_type1 (thn (ha.run pos pins s σ H _ I h) fun us s1 ⟨vs, H1, I1, r1, q1⟩ => ?_) hs rfl))⟩
  obtain ⟨a, xs, rfl, hq, q⟩ := q1
  cases r1 with
  | cons r rr =>
    cases rr
    cases r
    obtain ⟨its, rv, tp, hz⟩ := I1.tuple hq
    refine call_enumB (begins_tuple a its.toArray) tp fun h1 he hit hk => wpAny_pyIter_enum he ?_
    refine ⟨s1.heap.objs.size + 1, [s1.heap.objs.size + 1, s1.heap.objs.size], _, _, H1, rfl, I1.kept (t' := s1.toks) hk, turn_enumT a (s1.heap.objs.size + 1) s1.heap.objs.size, ⟨⟨.none, he⟩, ⟨_, hit, rfl, rfl⟩, Nat.succ_ne_self _⟩, fun b hb => ?_, q⟩
    have hle : s1.heap.objs.size ≤ b := by
      rcases (by simpa using hb : b = s1.heap.objs.size + 1 ∨ b = s1.heap.objs.size) with z | z
      · rw [z]; exact Nat.le_add_right _ _
      · rw [z]; exact Nat.le_refl _
    exact I1.fpOk hle (I1.hok.fresh hle)
theorem walk_enumT {K : PySem.W.Frag} {a : Addr} {xs : List V} : Walk (IteT K a) xs.length (fun H => SqT K H a xs) (YPair (fun i => some (.int (i : Nat))) (fun i => xs[i]?)) where
  goes i H hi q := ⟨xs, xs[i], q, List.getElem?_eq_getElem hi⟩
  stops H q := ⟨xs, q, Nat.le_refl _⟩
  yields i H v H' _ q y := by
    obtain ⟨T, x, ev, nT, eH, gx⟩ := y
    exact ⟨T, _, x, ev, nT, eH, rfl, gx xs q⟩
end OC

set_option Elab.async false
set_option linter.all false
set_option maxRecDepth 100000
set_option maxHeartbeats 2000000
/-! sorted(xs, reverse=True) of tuples of as many rests each -/
namespace OC
open PySem PySem.Spec PyProof.Rows L2 SrtO
section
variable {P : Program} {w : World} {A : Around} {s : Shared}
def ltT (h : Heap) (B : Int) : Value → Value → Bool := fun v u => decide (TS.code B (TS.intsOf h v) < TS.code B (TS.intsOf h u))
theorem swo_T (h : Heap) (B : Int) : Swo (ltT h B) where
  asym x y e := by
    have := of_decide_eq_true e
    exact decide_eq_false (by omega)
  tr x y z e1 e2 := by
    have h1 := of_decide_eq_false e1
    have h2 := of_decide_eq_false e2
    exact decide_eq_false (by omega)
theorem tups_sortable {h0 : Heap} {a : Addr} {vs : List Value} {d : Nat} {B : Int} (hd : 1 ≤ d) (h2 : 2 ≤ vs.length) (x : TS.TupsOk s.heap d B vs) (hi : ∀ v ∈ vs, TS.intsOf h0 v = TS.intsOf s.heap v) (ha : ∀ o, s.heap.get? a = some o → o.cls ≠ .type "tuple") : SortableO P w A s a vs (ltT h0 B) := by
  intro h' keep
  have x' : TS.TupsOk h' d B vs := x.keeps fun b o e c => keep b o (fun z => by subst z; exact ha o e c) e
  obtain ⟨fs, k, hl, hf⟩ := TS.firsts_of hd vs x'
  refine ⟨tuples' true, fun Q E hq => ?_, fun p q hp hq => ?_⟩
  · refine PySem.W.kat_kind (T := Value.type "int") k (by omega) (fun f hm => ?_) rfl ?_
    · obtain ⟨n, t, rfl⟩ := hf f hm
      exact PySem.W.Looks.of_pure rfl
    · rw [show (Value.type "int" != Value.type "tuple") = true from by first | decide +kernel | rfl]
      exact hq
  · obtain ⟨ns, tp, lp, bp⟩ := x _ hp
    obtain ⟨ms, tq, lq, bq⟩ := x _ hq
    have kk : ∀ b o, s.heap.get? b = some o → o.cls = .type "tuple" → h'.get? b = some o := fun b o e c => keep b o (fun z => by subst z; exact ha o e c) e
    have e1 : TS.intsOf h0 p.1 = ns := by rw [hi _ hp]; exact tp.ints
    have e2 : TS.intsOf h0 q.1 = ms := by rw [hi _ hq]; exact tq.ints
    have tp' := tp.keeps kk
    have tq' := tq.keeps kk
    show wpAny (model P w) A (keyLt' (tuples' true) p.1 q.1) (fun r s' => s' = { s with heap := h' } ∧ r = ltT h0 B p.1 q.1) (fun _ _ => False) { s with heap := h' }
    unfold ltT
    rw [e1, e2]
    obtain ⟨a1, xs, q1, ⟨o, ho, hc, n, hdt⟩, i⟩ := tp'
    obtain ⟨a2, ys, q2, ⟨o', ho', hc', n', hdt'⟩, i'⟩ := tq'
    rw [q1, q2]
    refine PySem.W.kat_lt (s := { s with heap := h' }) ho hdt ho' hdt' ?_
    have sz : decide (xs.size < ys.size) = false := by
      have l1 := i.length
      have l2 := i'.length
      rw [Array.length_toList] at l1 l2
      exact decide_eq_false (by omega)
    rw [sz]
    exact TS.lex_ints 0 i i' (by omega) bp bq ⟨rfl, rfl⟩
end
def rSortTR (K : PySem.W.Frag) : List V → List V → Hp → VK → Prop := fun vs zs H Q => ∃ (a : Addr) (xs : List V) (d : Nat) (B : Int), vs = [V.ref a] ∧ zs = [.bl true] ∧ 1 ≤ d ∧ SqL K H a xs ∧ (∀ x ∈ xs, ∃ ns, TupI K H x ns ∧ ns.length = d ∧ TS.Bd B ns) ∧
  ∀ (ys : List V) (p : Addr), ys.Perm xs → ys.Pairwise (fun x y => ∀ n m, TupI K H x n → TupI K H y m → TS.code B m ≤ TS.code B n) → H p = none → Q (.ref p) (upd H p (.lst ys))
theorem cr_sortTR {X : Cx} : CallRK X (.builtin "sorted") [Str.ofString "reverse"] (rSortTR X.K) := by
  intro pins s σ H vs zs us ws Q I r rz h
  obtain ⟨a, xs, d, B, rfl, rfl, hd, hs, hx, q⟩ := h
  rw [Vals.ref1 r]
  obtain ⟨w1, rfl, e1⟩ := vals1 rz
  obtain rfl : w1 = Value.bool true := e1
  obtain ⟨its, rv, hl, hz⟩ := I.list hs
  obtain ⟨e1, e2⟩ := bkV_refs rv fun x m => by
    obtain ⟨ns, ⟨t, e, _⟩, _⟩ := hx x m
    exact ⟨t, e⟩
  have tups : TS.TupsOk s.heap d B its := fun v hv => by
    obtain ⟨t, rfl⟩ := e2 v hv
    have hm : V.ref t ∈ xs := by rw [e1]; exact List.mem_map.mpr ⟨_, hv, rfl⟩
    obtain ⟨ns, ⟨t', e, ht⟩, hn, hb⟩ := hx _ hm
    cases e
    exact ⟨ns, tupI_raw I ht, hn, hb⟩
  show wpAny (model X.prog X.w) X.A (call (.builtin "sorted") [.ref a] [(Str.ofString "reverse", .bool true)]) _ _ _
  refine SrtR.sorted_ordK (b := true) (ltv := ltT s.heap B) (fun _ => rfl) (PyProof.Rows.args_sorted_rev _ _) (fun _ => PyProof.Rows.args_list_sort_rev _ _) (swo_T s.heap B) hl.isList (by rw [← rv.length]; exact hz) (fun h2 h1 a' ha' kk => ?_) fun out o1 o2 => ?_
  · have keep : ∀ b o, s.heap.get? b = some o → o.cls = .type "tuple" → h1.get? b = some o := fun b o e _ => (kk b o e).2
    refine tups_sortable (s := { s with heap := h1 }) hd h2 (tups.keeps keep) (fun v hv => ?_) fun o e => ?_
    · obtain ⟨ns, tp, _⟩ := tups v hv
      rw [tp.ints, (tp.keeps keep).ints]
    · have e' : some o = some (seqObj "list" its.toArray 0) := e.symm.trans ha'
      cases e'
      intro c
      exact absurd (Value.type.inj c) (by decide)
  · obtain ⟨ep, he'⟩ := PyProof.Rows.sortedAll_at s.heap its out.toArray.reverse
    have pm : out.Perm its := o2.perm.trans (List.reverse_perm _)
    have h3 : ∀ u ∈ out.reverse, ∃ a, u = Value.ref a := fun u hu => e2 u (pm.mem_iff.mp (List.mem_reverse.mp hu))
    have hp : (out.reverse.map bkV).Perm xs := by
      rw [e1]
      exact ((List.reverse_perm out).trans pm).map bkV
    have hlen : (out.reverse.map bkV).length ≤ sizeLine := by
      rw [hp.length_eq]
      exact hz
    have ea : out.reverse.toArray = out.toArray.reverse := by
      apply Array.ext'
      rw [Array.toList_reverse]
    refine ⟨.ref _, upd H (s.heap.objs.size + 1) (.lst (out.reverse.map bkV)), I.laid (t' := s.toks) (fun _ _ => PyProof.Rows.sortedAll_old) (Nat.le_succ _) ⟨hlen, out.reverse, ep, bkV_vals h3, by rw [ea]; exact he'⟩, rfl, q _ _ hp ?_ (I.hok.fresh (Nat.le_succ _))⟩
    rw [List.pairwise_map, List.pairwise_reverse]
    refine o1.imp fun {u v} huv n m hn hm => ?_
    obtain ⟨t, et, ht⟩ := hn
    obtain ⟨t', et', ht'⟩ := hm
    have i1 : TS.intsOf s.heap v = n := by
      rw [bkV_ref et]
      exact (tupI_raw I ht).ints
    have i2 : TS.intsOf s.heap u = m := by
      rw [bkV_ref et']
      exact (tupI_raw I ht').ints
    have z := of_decide_eq_false huv
    rw [i1, i2] at z
    omega
end OC

/-! Linear algebra over Fin p, vectors as functions: spans, plain forms, their uniqueness. Core Lean alone. -/
namespace Lin
set_option linter.all false
section
variable {p : Nat} [NeZero p]
abbrev Vec (p : Nat) := Nat → Fin p
def zeroV : Vec p := fun _ => 0
def addV (x y : Vec p) : Vec p := fun i => x i + y i
def mulV (c : Fin p) (x : Vec p) : Vec p := fun i => c * x i
/-- closed under sums and multiples -/
structure Sub (S : Vec p → Prop) : Prop where
  zero : S zeroV
  add : ∀ {x y}, S x → S y → S (addV x y)
  mul : ∀ (c : Fin p) {x}, S x → S (mulV c x)
def lin : List (Fin p) → List (Vec p) → Vec p
  | f :: fs, v :: vs => addV (mulV f v) (lin fs vs)
  | _, _ => zeroV
def Spn (vs : List (Vec p)) (x : Vec p) : Prop := ∃ fs : List (Fin p), x = lin fs vs
theorem zero_add (x : Vec p) : addV zeroV x = x := by
  funext i
  show (0 : Fin p) + x i = x i
  grind
theorem lin_nil (vs : List (Vec p)) : lin [] vs = zeroV := by cases vs <;> rfl
theorem lin_nil' (fs : List (Fin p)) : lin fs ([] : List (Vec p)) = zeroV := by cases fs <;> rfl
def addF : List (Fin p) → List (Fin p) → List (Fin p)
  | f :: fs, g :: gs => (f + g) :: addF fs gs
  | [], gs => gs
  | fs, [] => fs
theorem lin_add : ∀ (vs : List (Vec p)) (fs gs : List (Fin p)), addV (lin fs vs) (lin gs vs) = lin (addF fs gs) vs
  | [], fs, gs => by
    rw [lin_nil', lin_nil', lin_nil', zero_add]
  | v :: vs, [], gs => by
    rw [lin_nil, zero_add]
    simp only [addF]
  | v :: vs, f :: fs, [] => by
    rw [lin_nil]
    simp only [addF]
    funext i
    show lin (f :: fs) (v :: vs) i + (0 : Fin p) = lin (f :: fs) (v :: vs) i
    grind
  | v :: vs, f :: fs, g :: gs => by
    have ih := lin_add vs fs gs
    simp only [addF, lin]
    rw [← ih]
    funext i
    show f * v i + lin fs vs i + (g * v i + lin gs vs i) = (f + g) * v i + (lin fs vs i + lin gs vs i)
    grind
theorem lin_mul (c : Fin p) : ∀ (vs : List (Vec p)) (fs : List (Fin p)), mulV c (lin fs vs) = lin (fs.map (c * ·)) vs
  | [], fs => by
    rw [lin_nil', lin_nil']
    funext i
    show c * (0 : Fin p) = 0
    grind
  | v :: vs, [] => by
    rw [List.map_nil, lin_nil]
    funext i
    show c * (0 : Fin p) = 0
    grind
  | v :: vs, f :: fs => by
    have ih := lin_mul c vs fs
    rw [List.map_cons]
    simp only [lin]
    rw [← ih]
    funext i
    show c * (f * v i + lin fs vs i) = c * f * v i + c * lin fs vs i
    grind
theorem spn_sub (vs : List (Vec p)) : Sub (Spn vs) where
  zero := ⟨[], (lin_nil vs).symm⟩
  add := by
    rintro x y ⟨fs, rfl⟩ ⟨gs, rfl⟩
    exact ⟨_, lin_add vs fs gs⟩
  mul := by
    rintro c x ⟨fs, rfl⟩
    exact ⟨_, lin_mul c vs fs⟩
theorem spn_tail {v : Vec p} {vs : List (Vec p)} {x : Vec p} (h : Spn vs x) : Spn (v :: vs) x := by
  obtain ⟨fs, rfl⟩ := h
  refine ⟨0 :: fs, ?_⟩
  funext i
  show lin fs vs i = 0 * v i + lin fs vs i
  grind
theorem spn_mem : ∀ {vs : List (Vec p)} {v : Vec p}, v ∈ vs → Spn vs v
  | w :: vs, v, h => by
    rcases List.mem_cons.mp h with rfl | h
    · refine ⟨[1], ?_⟩
      funext i
      show v i = 1 * v i + lin [] vs i
      rw [lin_nil]
      show v i = 1 * v i + (0 : Fin p)
      grind
    · exact spn_tail (spn_mem h)
theorem spn_le {S : Vec p → Prop} (hS : Sub S) : ∀ {vs : List (Vec p)}, (∀ v ∈ vs, S v) → ∀ {x}, Spn vs x → S x
  | [], _, x, ⟨fs, e⟩ => by
    rw [e, lin_nil']
    exact hS.zero
  | v :: vs, h, x, ⟨[], e⟩ => by
    rw [e, lin_nil]
    exact hS.zero
  | v :: vs, h, x, ⟨f :: fs, e⟩ => by
    rw [e]
    exact hS.add (hS.mul f (h v List.mem_cons_self)) (spn_le hS (fun w hw => h w (List.mem_cons_of_mem _ hw)) ⟨fs, rfl⟩)
theorem spn_sub_of {vs ws : List (Vec p)} (h : ∀ v ∈ vs, Spn ws v) {x : Vec p} (hx : Spn vs x) : Spn ws x := spn_le (spn_sub ws) h hx
theorem Sub.less {S : Vec p → Prop} (hS : Sub S) {x y : Vec p} (c : Fin p) (hx : S x) (hy : S y) : S (fun i => x i - c * y i) := by
  have h := hS.add hx (hS.mul (-c) hy)
  have e : addV x (mulV (-c) y) = fun i => x i - c * y i := by
    funext i
    show x i + -c * y i = x i - c * y i
    grind
  rw [e] at h
  exact h
/-! ### plain forms: pairs of a first place and a row -/
structure PF (n : Nat) (bs : List (Nat × Vec p)) : Prop where
  inc : bs.Pairwise (fun a b => a.1 < b.1)
  lt : ∀ b ∈ bs, b.1 < n
  one : ∀ b ∈ bs, b.2 b.1 = 1
  low : ∀ b ∈ bs, ∀ i, i < b.1 → b.2 i = 0
  off : ∀ b ∈ bs, ∀ c ∈ bs, b.1 ≠ c.1 → b.2 c.1 = 0
  wid : ∀ b ∈ bs, ∀ i, n ≤ i → b.2 i = 0
/-- the part of x that the rows tell by its rests at their first places -/
def red : List (Nat × Vec p) → Vec p → Vec p
  | [], _ => zeroV
  | b :: bs, x => addV (mulV (x b.1) b.2) (red bs x)
theorem red_add : ∀ (bs : List (Nat × Vec p)) (x y : Vec p), red bs (addV x y) = addV (red bs x) (red bs y)
  | [], x, y => by simp only [red]; rw [zero_add]
  | b :: bs, x, y => by
    simp only [red]
    rw [red_add bs x y]
    funext i
    show (x b.1 + y b.1) * b.2 i + (red bs x i + red bs y i) = x b.1 * b.2 i + red bs x i + (y b.1 * b.2 i + red bs y i)
    grind
theorem red_mul (c : Fin p) : ∀ (bs : List (Nat × Vec p)) (x : Vec p), red bs (mulV c x) = mulV c (red bs x)
  | [], x => by
    simp only [red]
    funext i
    show (0 : Fin p) = c * 0
    grind
  | b :: bs, x => by
    simp only [red]
    rw [red_mul c bs x]
    funext i
    show c * x b.1 * b.2 i + c * red bs x i = c * (x b.1 * b.2 i + red bs x i)
    grind
theorem red_zero (bs : List (Nat × Vec p)) : red bs zeroV = zeroV := by
  have h := red_mul (0 : Fin p) bs zeroV
  have e : mulV (0 : Fin p) (zeroV : Vec p) = zeroV := by
    funext i
    show (0 : Fin p) * 0 = 0
    grind
  rw [e] at h
  rw [h]
  funext i
  show (0 : Fin p) * red bs zeroV i = 0
  grind
theorem red_none : ∀ (l : List (Nat × Vec p)) (x : Vec p), (∀ b ∈ l, x b.1 = 0) → red l x = zeroV
  | [], _, _ => rfl
  | b :: l, x, h => by
    simp only [red]
    rw [red_none l x fun c hc => h c (List.mem_cons_of_mem _ hc), h b List.mem_cons_self]
    funext i
    show (0 : Fin p) * b.2 i + 0 = 0
    grind
theorem red_one : ∀ (l : List (Nat × Vec p)) (b : Nat × Vec p), b ∈ l → l.Pairwise (fun a c => a.1 < c.1) → b.2 b.1 = 1 → (∀ c ∈ l, b.1 ≠ c.1 → b.2 c.1 = 0) → red l b.2 = b.2
  | a :: l, b, hb, inc, h1, h0 => by
    have inc' := List.pairwise_cons.mp inc
    simp only [red]
    rcases List.mem_cons.mp hb with rfl | hb
    · rw [red_none l b.2 fun c hc => h0 c (List.mem_cons_of_mem _ hc) (Nat.ne_of_lt (inc'.1 c hc)), h1]
      funext i
      show (1 : Fin p) * b.2 i + 0 = b.2 i
      grind
    · rw [red_one l b hb inc'.2 h1 fun c hc => h0 c (List.mem_cons_of_mem _ hc), h0 a List.mem_cons_self (Nat.ne_of_gt (inc'.1 b hb))]
      funext i
      show (0 : Fin p) * a.2 i + b.2 i = b.2 i
      grind
/-- a row of the room is told by its rests at the first places -/
theorem PF.told {n : Nat} {bs : List (Nat × Vec p)} (h : PF n bs) {x : Vec p} (hx : Spn (bs.map (·.2)) x) : red bs x = x := by
  have hS : Sub (fun x : Vec p => red bs x = x) := by
    refine ⟨red_zero bs, fun {x y} hx hy => ?_, fun c {x} hx => ?_⟩
    · show red bs (addV x y) = addV x y
      rw [red_add, hx, hy]
    · show red bs (mulV c x) = mulV c x
      rw [red_mul, hx]
  refine spn_le hS (fun v hv => ?_) hx
  obtain ⟨b, hb, rfl⟩ := List.mem_map.mp hv
  exact red_one bs b hb h.inc (h.one b hb) fun c hc ne => h.off b hb c hc ne
theorem spn_red : ∀ (bs : List (Nat × Vec p)) (x : Vec p), Spn (bs.map (·.2)) (red bs x)
  | [], x => (spn_sub _).zero
  | b :: bs, x => (spn_sub _).add ((spn_sub _).mul _ (spn_mem (by simp))) (spn_tail (spn_red bs x))
/-- a first place of a row -/
def Lead (x : Vec p) (j : Nat) : Prop := x j ≠ 0 ∧ ∀ i, i < j → x i = 0
theorem red_low : ∀ (l : List (Nat × Vec p)) (x : Vec p) (j : Nat), (∀ i, i < j → x i = 0) → (∀ b ∈ l, b.1 ≠ j) → (∀ b ∈ l, ∀ i, i < b.1 → b.2 i = 0) → red l x j = 0
  | [], _, _, _, _, _ => rfl
  | b :: l, x, j, hx, hn, hl => by
    have ih := red_low l x j hx (fun c hc => hn c (List.mem_cons_of_mem _ hc)) fun c hc => hl c (List.mem_cons_of_mem _ hc)
    show x b.1 * b.2 j + red l x j = 0
    rw [ih]
    rcases Nat.lt_or_ge b.1 j with h | h
    · rw [hx b.1 h]
      grind
    · have h2 : j < b.1 := Nat.lt_of_le_of_ne h (Ne.symm (hn b List.mem_cons_self))
      rw [hl b List.mem_cons_self j h2]
      grind
theorem PF.lead {n : Nat} {bs : List (Nat × Vec p)} (h : PF n bs) {x : Vec p} {j : Nat} (hx : Spn (bs.map (·.2)) x) (hj : Lead x j) : ∃ b ∈ bs, b.1 = j := by
  apply Classical.byContradiction
  intro hn
  have e := h.told hx
  apply hj.1
  rw [← e]
  exact red_low bs x j hj.2 (fun b hb e => hn ⟨b, hb, e⟩) h.low
theorem PF.leads {n : Nat} {bs : List (Nat × Vec p)} (h : PF n bs) (h1 : (1 : Fin p) ≠ 0) {b : Nat × Vec p} (hb : b ∈ bs) : Lead b.2 b.1 := ⟨by rw [h.one b hb]; exact h1, h.low b hb⟩
theorem sorted_eq : ∀ {l m : List Nat}, l.Pairwise (· < ·) → m.Pairwise (· < ·) → (∀ x, x ∈ l ↔ x ∈ m) → l = m
  | [], [], _, _, _ => rfl
  | [], b :: m, _, _, h => by simpa using (h b).mpr List.mem_cons_self
  | a :: l, [], _, _, h => by simpa using (h a).mp List.mem_cons_self
  | a :: l, b :: m, hl, hm, h => by
    have hl' := List.pairwise_cons.mp hl
    have hm' := List.pairwise_cons.mp hm
    have e : a = b := by
      rcases List.mem_cons.mp ((h a).mp List.mem_cons_self) with e | e
      · exact e
      · rcases List.mem_cons.mp ((h b).mpr List.mem_cons_self) with e2 | e2
        · exact e2.symm
        · have := hm'.1 a e
          have := hl'.1 b e2
          omega
    subst e
    congr 1
    refine sorted_eq hl'.2 hm'.2 fun x => ⟨fun hx => ?_, fun hx => ?_⟩
    · rcases List.mem_cons.mp ((h x).mp (List.mem_cons_of_mem _ hx)) with e | e
      · have := hl'.1 x hx
        omega
      · exact e
    · rcases List.mem_cons.mp ((h x).mpr (List.mem_cons_of_mem _ hx)) with e | e
      · have := hm'.1 x hx
        omega
      · exact e
theorem pairs_eq : ∀ {bs cs : List (Nat × Vec p)}, bs.map (·.1) = cs.map (·.1) → (∀ b ∈ bs, ∀ c ∈ cs, b.1 = c.1 → b.2 = c.2) → bs = cs
  | [], [], _, _ => rfl
  | [], _ :: _, e, _ => by cases e
  | _ :: _, [], e, _ => by cases e
  | b :: bs, c :: cs, e, h => by
    rw [List.map_cons, List.map_cons] at e
    have e1 : b.1 = c.1 := (List.cons.inj e).1
    have e2 := h b List.mem_cons_self c List.mem_cons_self e1
    have e3 : b = c := by
      cases b
      cases c
      simp only at e1 e2
      rw [e1, e2]
    rw [e3, pairs_eq (List.cons.inj e).2 fun x hx y hy => h x (List.mem_cons_of_mem _ hx) y (List.mem_cons_of_mem _ hy)]
/-- each room has just one plain form -/
theorem PF.uniq {n m : Nat} {bs cs : List (Nat × Vec p)} (h1 : (1 : Fin p) ≠ 0) (hb : PF n bs) (hc : PF m cs) (h : ∀ x, Spn (bs.map (·.2)) x ↔ Spn (cs.map (·.2)) x) : bs = cs := by
  have inB : ∀ b ∈ bs, ∃ c ∈ cs, c.1 = b.1 := fun b m => hc.lead ((h _).mp (spn_mem (List.mem_map_of_mem m))) (hb.leads h1 m)
  have inC : ∀ c ∈ cs, ∃ b ∈ bs, b.1 = c.1 := fun c m => hb.lead ((h _).mpr (spn_mem (List.mem_map_of_mem m))) (hc.leads h1 m)
  have ef : bs.map (·.1) = cs.map (·.1) := by
    refine sorted_eq ?_ ?_ fun x => ⟨fun hx => ?_, fun hx => ?_⟩
    · exact List.pairwise_map.mpr hb.inc
    · exact List.pairwise_map.mpr hc.inc
    · obtain ⟨b, m, rfl⟩ := List.mem_map.mp hx
      obtain ⟨c, m', e⟩ := inB b m
      exact List.mem_map.mpr ⟨c, m', e⟩
    · obtain ⟨c, m, rfl⟩ := List.mem_map.mp hx
      obtain ⟨b, m', e⟩ := inC c m
      exact List.mem_map.mpr ⟨b, m', e⟩
  refine pairs_eq ef fun b mb c mc e => ?_
  have hx : Spn (cs.map (·.2)) b.2 := (h _).mp (spn_mem (List.mem_map_of_mem mb))
  have t := hc.told hx
  rw [← t]
  -- b's rests at the first places of cs are those of c
  have key : ∀ l : List (Nat × Vec p), (∀ d ∈ l, b.2 d.1 = c.2 d.1) → red l b.2 = red l c.2 := by
    intro l
    induction l with
    | nil => intro _; rfl
    | cons d l ih =>
      intro hd
      simp only [red]
      rw [hd d List.mem_cons_self, ih fun x hx => hd x (List.mem_cons_of_mem _ hx)]
  rw [key cs fun d md => ?_]
  · exact red_one cs c mc hc.inc (hc.one c mc) fun d md ne => hc.off c mc d md ne
  · by_cases ne : b.1 = d.1
    · rw [← ne, hb.one b mb, e, hc.one c mc]
    · obtain ⟨b', mb', e'⟩ := inC d md
      rw [← e', hb.off b mb b' mb' (by rw [e']; exact ne), e', hc.off c mc d md (by rw [← e]; exact ne)]
theorem red_at : ∀ (l : List (Nat × Vec p)) (x : Vec p) (c : Nat × Vec p), c ∈ l → l.Pairwise (fun a b => a.1 < b.1) → c.2 c.1 = 1 → (∀ b ∈ l, b.1 ≠ c.1 → b.2 c.1 = 0) → red l x c.1 = x c.1
  | a :: l, x, c, hc, inc, h1, h0 => by
    have inc' := List.pairwise_cons.mp inc
    show x a.1 * a.2 c.1 + red l x c.1 = x c.1
    rcases List.mem_cons.mp hc with rfl | hc
    · have z : ∀ m : List (Nat × Vec p), (∀ b ∈ m, b.2 c.1 = 0) → red m x c.1 = 0 := by
        intro m
        induction m with
        | nil => intro _; rfl
        | cons b m ih =>
          intro hm
          show x b.1 * b.2 c.1 + red m x c.1 = 0
          rw [hm b List.mem_cons_self, ih fun y hy => hm y (List.mem_cons_of_mem _ hy)]
          grind
      rw [z l fun b hb => h0 b (List.mem_cons_of_mem _ hb) (Nat.ne_of_gt (inc'.1 b hb)), h1]
      grind
    · rw [red_at l x c hc inc'.2 h1 fun b hb => h0 b (List.mem_cons_of_mem _ hb), h0 a List.mem_cons_self (Nat.ne_of_lt (inc'.1 c hc))]
      grind
theorem PF.at {n : Nat} {bs : List (Nat × Vec p)} (h : PF n bs) (x : Vec p) {c : Nat × Vec p} (hc : c ∈ bs) : red bs x c.1 = x c.1 :=
  red_at bs x c hc h.inc (h.one c hc) fun b hb ne => h.off b hb c hc ne
theorem sorted_len : ∀ {l m : List Nat}, l.Pairwise (· < ·) → m.Pairwise (· < ·) → (∀ x ∈ l, x ∈ m) → l.length ≤ m.length ∧ (m.length ≤ l.length → ∀ x ∈ m, x ∈ l)
  | [], m, _, _, _ => ⟨Nat.zero_le _, fun h x hx => by
      cases m with
      | nil => exact hx
      | cons a b => simp at h⟩
  | a :: l, [], _, _, h => by simpa using h a List.mem_cons_self
  | a :: l, b :: m, hl, hm, h => by
    have hl' := List.pairwise_cons.mp hl
    have hm' := List.pairwise_cons.mp hm
    by_cases e : a = b
    · subst e
      have ih := sorted_len hl'.2 hm'.2 fun x hx => by
        rcases List.mem_cons.mp (h x (List.mem_cons_of_mem _ hx)) with e | e
        · have := hl'.1 x hx
          omega
        · exact e
      refine ⟨by simpa using ih.1, fun hle x hx => ?_⟩
      rcases List.mem_cons.mp hx with rfl | hx
      · exact List.mem_cons_self
      · exact List.mem_cons_of_mem _ (ih.2 (by simpa using hle) x hx)
    · have ha : a ∈ m := by
        rcases List.mem_cons.mp (h a List.mem_cons_self) with z | z
        · exact absurd z e
        · exact z
      have ih := sorted_len (l := a :: l) hl hm'.2 fun x hx => by
        rcases List.mem_cons.mp (h x hx) with z | z
        · rcases List.mem_cons.mp hx with y | y
          · omega
          · have := hl'.1 x y
            have := hm'.1 a ha
            omega
        · exact z
      refine ⟨Nat.le_succ_of_le ih.1, fun hle => ?_⟩
      have := ih.1
      simp only [List.length_cons] at this hle
      omega
theorem PF.firsts_sub {n m : Nat} {bs cs : List (Nat × Vec p)} (hb : PF n bs) (hc : PF m cs) (h1 : (1 : Fin p) ≠ 0) (h : ∀ x, Spn (bs.map (·.2)) x → Spn (cs.map (·.2)) x) : ∀ j ∈ bs.map (·.1), j ∈ cs.map (·.1) := by
  intro j hj
  obtain ⟨b, mb, rfl⟩ := List.mem_map.mp hj
  obtain ⟨c, mc, e⟩ := hc.lead (h _ (spn_mem (List.mem_map_of_mem mb))) (hb.leads h1 mb)
  exact List.mem_map.mpr ⟨c, mc, e⟩
theorem PF.len_le {n m : Nat} {bs cs : List (Nat × Vec p)} (hb : PF n bs) (hc : PF m cs) (h1 : (1 : Fin p) ≠ 0) (h : ∀ x, Spn (bs.map (·.2)) x → Spn (cs.map (·.2)) x) : bs.length ≤ cs.length := by
  have := (sorted_len (List.pairwise_map.mpr hb.inc) (List.pairwise_map.mpr hc.inc) (hb.firsts_sub hc h1 h)).1
  rw [List.length_map, List.length_map] at this
  exact this
/-- one room within another, with as many first places: the same -/
theorem PF.same_of_len {n m : Nat} {bs cs : List (Nat × Vec p)} (hb : PF n bs) (hc : PF m cs) (h1 : (1 : Fin p) ≠ 0) (h : ∀ x, Spn (bs.map (·.2)) x → Spn (cs.map (·.2)) x) (hl : cs.length ≤ bs.length) {x : Vec p} (hx : Spn (cs.map (·.2)) x) : Spn (bs.map (·.2)) x := by
  have back := (sorted_len (List.pairwise_map.mpr hb.inc) (List.pairwise_map.mpr hc.inc) (hb.firsts_sub hc h1 h)).2 (by rw [List.length_map, List.length_map]; exact hl)
  have hy : Spn (cs.map (·.2)) (fun i => x i - 1 * red bs x i) := (spn_sub _).less 1 hx (h _ (spn_red bs x))
  have t := hc.told hy
  have z : red cs (fun i => x i - 1 * red bs x i) = zeroV := red_none cs _ fun c mc => by
    obtain ⟨b, mb, e⟩ := List.mem_map.mp (back c.1 (List.mem_map_of_mem mc))
    have := hb.at x mb
    show x c.1 - 1 * red bs x c.1 = 0
    rw [← e, this]
    grind
  rw [z] at t
  have e : x = red bs x := by
    funext i
    have := congrFun t i
    have this : (0 : Fin p) = x i - 1 * red bs x i := this
    grind
  rw [e]
  exact spn_red bs x
/-! ### taking off, place by place -/
variable (inv : Fin p → Fin p)
def lessV (x own : Vec p) (j : Nat) : Vec p := fun i => x i - x j * own i
def ownV (a : Vec p) (j : Nat) : Vec p := mulV (inv (a j)) a
def stepV (st : List (Vec p) × List (Nat × Vec p)) (k : Nat) : List (Vec p) × List (Nat × Vec p) :=
  match st.1.filter (fun x => decide (x k ≠ 0)) with
  | [] => st
  | a :: _ => (st.1.map fun x => lessV x (ownV inv a k) k, (st.2.map fun b => (b.1, lessV b.2 (ownV inv a k) k)) ++ [(k, ownV inv a k)])
def plainV (n : Nat) (vs : List (Vec p)) : List (Nat × Vec p) := ((List.range n).foldl (stepV inv) (vs, [])).2
structure StepOk (n k : Nat) (vs : List (Vec p)) (st : List (Vec p) × List (Nat × Vec p)) : Prop where
  low : ∀ x ∈ st.1, ∀ i, i < k → x i = 0
  wid : ∀ x ∈ st.1, ∀ i, n ≤ i → x i = 0
  pf : PF n st.2
  below : ∀ b ∈ st.2, b.1 < k
  to : ∀ x, Spn (st.1 ++ st.2.map (·.2)) x → Spn vs x
  from_ : ∀ x, Spn vs x → Spn (st.1 ++ st.2.map (·.2)) x
theorem filter_head {α : Type} {q : α → Bool} {l : List α} {a : α} {r : List α} (h : l.filter q = a :: r) : a ∈ l ∧ q a = true := by
  have : a ∈ l.filter q := by rw [h]; exact List.mem_cons_self
  exact List.mem_filter.mp this
theorem step_ok {n k : Nat} {vs : List (Vec p)} {st : List (Vec p) × List (Nat × Vec p)} (hinv : ∀ a : Fin p, a ≠ 0 → inv a * a = 1) (hk : k < n) (h : StepOk n k vs st) : StepOk n (k + 1) vs (stepV inv st k) := by
  unfold stepV
  split
  · rename_i hf
    refine ⟨fun x hx i hi => ?_, h.wid, h.pf, fun b hb => Nat.lt_succ_of_lt (h.below b hb), h.to, h.from_⟩
    by_cases e : i = k
    · subst e
      apply Classical.byContradiction
      intro hne
      have : x ∈ st.1.filter (fun x => decide (x i ≠ 0)) := List.mem_filter.mpr ⟨hx, decide_eq_true hne⟩
      rw [hf] at this
      cases this
    · exact h.low x hx i (by omega)
  · rename_i a r hf
    obtain ⟨ha, hq⟩ := filter_head hf
    have hak : a k ≠ 0 := of_decide_eq_true hq
    have ok1 : ownV inv a k k = 1 := hinv _ hak
    have okl : ∀ i, i < k → ownV inv a k i = 0 := fun i hi => by
      show inv (a k) * a i = 0
      rw [h.low a ha i hi]
      grind
    have okw : ∀ i, n ≤ i → ownV inv a k i = 0 := fun i hi => by
      show inv (a k) * a i = 0
      rw [h.wid a ha i hi]
      grind
    have less_k : ∀ x : Vec p, lessV x (ownV inv a k) k k = 0 := fun x => by
      show x k - x k * ownV inv a k k = 0
      rw [ok1]
      grind
    have less_lt : ∀ (x : Vec p) i, i < k → lessV x (ownV inv a k) k i = x i := fun x i hi => by
      show x i - x k * ownV inv a k i = x i
      rw [okl i hi]
      grind
    have less_w : ∀ (x : Vec p) i, n ≤ i → x i = 0 → lessV x (ownV inv a k) k i = 0 := fun x i hi hx => by
      show x i - x k * ownV inv a k i = 0
      rw [okw i hi, hx]
      grind
    have own_in : Spn (st.1 ++ st.2.map (·.2)) (ownV inv a k) := (spn_sub _).mul _ (spn_mem (List.mem_append_left _ ha))
    generalize ownV inv a k = own at *
    refine ⟨?_, ?_, ⟨?_, ?_, ?_, ?_, ?_, ?_⟩, ?_, ?_, ?_⟩
    · intro x hx i hi
      obtain ⟨y, my, rfl⟩ := List.mem_map.mp hx
      by_cases e : i = k
      · subst e
        exact less_k y
      · rw [less_lt y i (by omega)]
        exact h.low y my i (by omega)
    · intro x hx i hi
      obtain ⟨y, my, rfl⟩ := List.mem_map.mp hx
      exact less_w y i hi (h.wid y my i hi)
    · refine List.pairwise_append.mpr ⟨?_, List.pairwise_singleton _ _, fun b hb c hc => ?_⟩
      · exact List.pairwise_map.mpr h.pf.inc
      · obtain ⟨b', mb, rfl⟩ := List.mem_map.mp hb
        have : c = (k, own) := by simpa using hc
        subst this
        exact h.below b' mb
    · intro b hb
      rcases List.mem_append.mp hb with hb | hb
      · obtain ⟨b', mb, rfl⟩ := List.mem_map.mp hb
        exact h.pf.lt b' mb
      · have : b = (k, own) := by simpa using hb
        subst this
        exact hk
    · intro b hb
      rcases List.mem_append.mp hb with hb | hb
      · obtain ⟨b', mb, rfl⟩ := List.mem_map.mp hb
        show lessV b'.2 own k b'.1 = 1
        rw [less_lt _ _ (h.below b' mb)]
        exact h.pf.one b' mb
      · have : b = (k, own) := by simpa using hb
        subst this
        exact ok1
    · intro b hb i hi
      rcases List.mem_append.mp hb with hb | hb
      · obtain ⟨b', mb, rfl⟩ := List.mem_map.mp hb
        have hi : i < b'.1 := hi
        show lessV b'.2 own k i = 0
        rw [less_lt _ _ (Nat.lt_trans hi (h.below b' mb))]
        exact h.pf.low b' mb i hi
      · have : b = (k, own) := by simpa using hb
        subst this
        exact okl i hi
    · intro b hb c hc ne
      rcases List.mem_append.mp hb with hb | hb
      · obtain ⟨b', mb, rfl⟩ := List.mem_map.mp hb
        rcases List.mem_append.mp hc with hc | hc
        · obtain ⟨c', mc, rfl⟩ := List.mem_map.mp hc
          show lessV b'.2 own k c'.1 = 0
          rw [less_lt _ _ (h.below c' mc)]
          exact h.pf.off b' mb c' mc ne
        · have : c = (k, own) := by simpa using hc
          subst this
          exact less_k b'.2
      · have : b = (k, own) := by simpa using hb
        subst this
        rcases List.mem_append.mp hc with hc | hc
        · obtain ⟨c', mc, rfl⟩ := List.mem_map.mp hc
          exact okl c'.1 (h.below c' mc)
        · have : c = (k, own) := by simpa using hc
          subst this
          exact absurd rfl ne
    · intro b hb i hi
      rcases List.mem_append.mp hb with hb | hb
      · obtain ⟨b', mb, rfl⟩ := List.mem_map.mp hb
        exact less_w b'.2 i hi (h.pf.wid b' mb i hi)
      · have : b = (k, own) := by simpa using hb
        subst this
        exact okw i hi
    · intro b hb
      rcases List.mem_append.mp hb with hb | hb
      · obtain ⟨b', mb, rfl⟩ := List.mem_map.mp hb
        exact Nat.lt_succ_of_lt (h.below b' mb)
      · have : b = (k, own) := by simpa using hb
        subst this
        exact Nat.lt_succ_self k
    · intro x hx
      refine h.to x (spn_sub_of (fun v hv => ?_) hx)
      rcases List.mem_append.mp hv with hv | hv
      · obtain ⟨y, my, rfl⟩ := List.mem_map.mp hv
        exact (spn_sub _).less (y k) (spn_mem (List.mem_append_left _ my)) own_in
      · obtain ⟨b, mb, rfl⟩ := List.mem_map.mp hv
        rcases List.mem_append.mp mb with mb | mb
        · obtain ⟨b', mb', rfl⟩ := List.mem_map.mp mb
          exact (spn_sub _).less (b'.2 k) (spn_mem (List.mem_append_right _ (List.mem_map_of_mem mb'))) own_in
        · have : b = (k, own) := by simpa using mb
          subst this
          exact own_in
    · intro x hx
      have own_in' : Spn (st.1.map (fun x => lessV x own k) ++ ((st.2.map fun b => (b.1, lessV b.2 own k)) ++ [(k, own)]).map (·.2)) own := spn_mem (by simp)
      have back : ∀ y : Vec p, Spn (st.1.map (fun x => lessV x own k) ++ ((st.2.map fun b => (b.1, lessV b.2 own k)) ++ [(k, own)]).map (·.2)) (lessV y own k) → Spn (st.1.map (fun x => lessV x own k) ++ ((st.2.map fun b => (b.1, lessV b.2 own k)) ++ [(k, own)]).map (·.2)) y := by
        intro y hy
        have := (spn_sub _).add hy ((spn_sub _).mul (y k) own_in')
        have e : addV (lessV y own k) (mulV (y k) own) = y := by
          funext i
          show y i - y k * own i + y k * own i = y i
          grind
        rw [e] at this
        exact this
      refine spn_sub_of (fun v hv => ?_) (h.from_ x hx)
      rcases List.mem_append.mp hv with hv | hv
      · exact back v (spn_mem (List.mem_append_left _ (List.mem_map_of_mem hv)))
      · obtain ⟨b, mb, rfl⟩ := List.mem_map.mp hv
        refine back b.2 (spn_mem (List.mem_append_right _ ?_))
        refine List.mem_map.mpr ⟨(b.1, lessV b.2 own k), List.mem_append_left _ (List.mem_map.mpr ⟨b, mb, rfl⟩), rfl⟩
theorem steps_ok {n : Nat} {vs : List (Vec p)} (hinv : ∀ a : Fin p, a ≠ 0 → inv a * a = 1) (hw : ∀ x ∈ vs, ∀ i, n ≤ i → x i = 0) : ∀ k, k ≤ n → StepOk n k vs ((List.range k).foldl (stepV inv) (vs, []))
  | 0, _ => by
    refine ⟨fun x _ i hi => absurd hi (Nat.not_lt_zero i), hw, ⟨.nil, fun b h => (nomatch h), fun b h => (nomatch h), fun b h => (nomatch h), fun b h => (nomatch h), fun b h => (nomatch h)⟩, fun b h => (nomatch h), fun x hx => ?_, fun x hx => ?_⟩
    · simpa using hx
    · simpa using hx
  | k + 1, hk => by
    rw [List.range_succ, List.foldl_append]
    exact step_ok inv hinv (by omega) (steps_ok hinv hw k (by omega))
/-- taking off, place by place, tells the plain form of what the rows make -/
theorem plainV_pf {n : Nat} {vs : List (Vec p)} (hinv : ∀ a : Fin p, a ≠ 0 → inv a * a = 1) (hw : ∀ x ∈ vs, ∀ i, n ≤ i → x i = 0) : PF n (plainV inv n vs) := (steps_ok inv hinv hw n (Nat.le_refl n)).pf
theorem plainV_spn {n : Nat} {vs : List (Vec p)} (hinv : ∀ a : Fin p, a ≠ 0 → inv a * a = 1) (hw : ∀ x ∈ vs, ∀ i, n ≤ i → x i = 0) (x : Vec p) : Spn ((plainV inv n vs).map (·.2)) x ↔ Spn vs x := by
  have h := steps_ok inv hinv hw n (Nat.le_refl n)
  constructor
  · intro hx
    refine h.to x (spn_sub_of (fun v hv => spn_mem (List.mem_append_right _ hv)) hx)
  · intro hx
    refine spn_sub_of (fun v hv => ?_) (h.from_ x hx)
    rcases List.mem_append.mp hv with hv | hv
    · have e : v = zeroV := by
        funext i
        rcases Nat.lt_or_ge i n with hi | hi
        · exact h.low v hv i hi
        · exact h.wid v hv i hi
      rw [e]
      exact (spn_sub _).zero
    · exact spn_mem hv
/-- a plain form of the same room is what taking off tells -/
theorem plainV_uniq {n : Nat} {vs : List (Vec p)} {bs : List (Nat × Vec p)} (h1 : (1 : Fin p) ≠ 0) (hinv : ∀ a : Fin p, a ≠ 0 → inv a * a = 1) (hw : ∀ x ∈ vs, ∀ i, n ≤ i → x i = 0) (hb : PF n bs) (h : ∀ x, Spn (bs.map (·.2)) x ↔ Spn vs x) : bs = plainV inv n vs :=
  hb.uniq h1 (plainV_pf inv hinv hw) fun x => (h x).trans (plainV_spn inv hinv hw x).symm
theorem spn_append {vs ws : List (Vec p)} {S : Vec p → Prop} (hS : Sub S) (h1 : ∀ x, Spn vs x → S x) (h2 : ∀ x, Spn ws x → S x) (x : Vec p) (hx : Spn (vs ++ ws) x) : S x :=
  spn_le hS (fun v hv => (List.mem_append.mp hv).elim (fun h => h1 v (spn_mem h)) fun h => h2 v (spn_mem h)) hx
theorem spn_left {vs ws : List (Vec p)} {x : Vec p} (h : Spn vs x) : Spn (vs ++ ws) x := spn_sub_of (fun v hv => spn_mem (List.mem_append_left _ hv)) h
theorem spn_right {vs ws : List (Vec p)} {x : Vec p} (h : Spn ws x) : Spn (vs ++ ws) x := spn_sub_of (fun v hv => spn_mem (List.mem_append_right _ hv)) h
/-- a row more: as many rows as before just where it is made by them -/
theorem plainV_has {n : Nat} {vs : List (Vec p)} {v : Vec p} (h1 : (1 : Fin p) ≠ 0) (hinv : ∀ a : Fin p, a ≠ 0 → inv a * a = 1) (hw : ∀ x ∈ vs, ∀ i, n ≤ i → x i = 0) (hv : ∀ i, n ≤ i → v i = 0) :
    (plainV inv n (vs ++ [v])).length = (plainV inv n vs).length ↔ Spn vs v := by
  have hw' : ∀ x ∈ vs ++ [v], ∀ i, n ≤ i → x i = 0 := fun x hx => by
    rcases List.mem_append.mp hx with h | h
    · exact hw x h
    · have : x = v := by simpa using h
      rw [this]
      exact hv
  have A := plainV_pf inv hinv hw
  have B := plainV_pf inv hinv hw'
  have sa := plainV_spn inv hinv hw
  have sb := plainV_spn inv hinv hw'
  constructor
  · intro e
    have := A.same_of_len B h1 (fun x hx => (sb x).mpr (spn_left ((sa x).mp hx))) (Nat.le_of_eq e) ((sb v).mpr (spn_right (spn_mem (by simp))))
    exact (sa v).mp this
  · intro hs
    have same : ∀ x, Spn (vs ++ [v]) x ↔ Spn vs x := fun x => ⟨fun hx => spn_append (spn_sub vs) (fun _ h => h) (fun y hy => spn_sub_of (fun z hz => by
      have : z = v := by simpa using hz
      rw [this]
      exact hs) hy) x hx, spn_left⟩
    rw [B.uniq h1 A fun x => (sb x).trans ((same x).trans (sa x).symm)]
theorem plainV_len_le {n : Nat} {vs ws : List (Vec p)} (h1 : (1 : Fin p) ≠ 0) (hinv : ∀ a : Fin p, a ≠ 0 → inv a * a = 1) (hv : ∀ x ∈ vs, ∀ i, n ≤ i → x i = 0) (hw : ∀ x ∈ ws, ∀ i, n ≤ i → x i = 0) (h : ∀ x, Spn vs x → Spn ws x) : (plainV inv n vs).length ≤ (plainV inv n ws).length :=
  (plainV_pf inv hinv hv).len_le (plainV_pf inv hinv hw) h1 fun x hx => (plainV_spn inv hinv hw x).mpr (h x ((plainV_spn inv hinv hv x).mp hx))
end
end Lin

/-! rows of ints mod p as vectors; the law's own taking off -/
namespace OC
set_option linter.all false
open Lin
def ctr (p a : Int) : Int := (((List.range p.toNat).map fun (b : Nat) => (b : Int)).filter fun b => decide (a * b % p = 1)).headD 0
def lessR (p : Int) (x y : List Int) (j : Nat) : List Int := List.zipWith (fun r m => (r - x.getD j 0 * m) % p) x y
def ownR (p : Int) (a : List Int) (j : Nat) : List Int := a.map fun r => ctr p (a.getD j 0) * r % p
def stepR (p : Int) (st : List (List Int) × List (List Int)) (k : Nat) : List (List Int) × List (List Int) :=
  match st.1.filter (fun r => decide (r.getD k 0 ≠ 0)) with
  | [] => st
  | a :: _ => (st.1.map fun r => lessR p r (ownR p a k) k, (st.2.map fun r => lessR p r (ownR p a k) k) ++ [ownR p a k])
def plainR (p : Int) (n : Nat) (rows : List (List Int)) : List (List Int) := ((List.range n).foldl (stepR p) (rows, [])).2
/-- each rest but 0 has a contrary one -/
def Fld (p : Int) : Prop := 2 ≤ p ∧ ∀ a : Int, 1 ≤ a → a < p → ∃ b : Int, 1 ≤ b ∧ b < p ∧ a * b % p = 1
theorem ctr_ok {p a : Int} (h : Fld p) (h0 : 1 ≤ a) (h1 : a < p) : 0 ≤ ctr p a ∧ ctr p a < p ∧ a * ctr p a % p = 1 := by
  obtain ⟨b, b1, b2, b3⟩ := h.2 a h0 h1
  unfold ctr
  generalize hl : ((List.range p.toNat).map fun (b : Nat) => (b : Int)).filter (fun b => decide (a * b % p = 1)) = l
  have mem : ∀ x ∈ l, 0 ≤ x ∧ x < p ∧ a * x % p = 1 := by
    intro x hx
    rw [← hl] at hx
    obtain ⟨hx, hq⟩ := List.mem_filter.mp hx
    obtain ⟨i, hi, rfl⟩ := List.mem_map.mp hx
    have := List.mem_range.mp hi
    exact ⟨by omega, by omega, of_decide_eq_true hq⟩
  cases l with
  | nil =>
    have : b ∈ ((List.range p.toNat).map fun (b : Nat) => (b : Int)).filter (fun b => decide (a * b % p = 1)) := List.mem_filter.mpr ⟨List.mem_map.mpr ⟨b.toNat, List.mem_range.mpr (by omega), by omega⟩, decide_eq_true b3⟩
    rw [hl] at this
    cases this
  | cons x r => exact mem x List.mem_cons_self
theorem gd_lt {r : List Int} {i : Nat} (h : i < r.length) : r.getD i 0 = r[i] := by
  rw [List.getD_eq_getElem?_getD, List.getElem?_eq_getElem h]
  rfl
theorem gd_ge {r : List Int} {i : Nat} (h : r.length ≤ i) : r.getD i 0 = 0 := by
  rw [List.getD_eq_getElem?_getD, List.getElem?_eq_none h]
  rfl
section
variable {q : Nat} [NeZero q]
theorem q_pos : (0 : Int) < q := by
  have := Nat.pos_of_ne_zero (NeZero.ne q)
  omega
def cF (x : Int) : Fin q := ⟨(x % q).toNat, by
  have h1 := Int.emod_lt_of_pos x (q_pos (q := q))
  have h2 := Int.emod_nonneg x (show (q : Int) ≠ 0 by have := q_pos (q := q); omega)
  omega⟩
theorem cF_val (x : Int) : ((cF (q := q) x).val : Int) = x % q := by
  show (((x % q).toNat : Nat) : Int) = x % q
  exact Int.toNat_of_nonneg (Int.emod_nonneg x (by have := q_pos (q := q); omega))
theorem fin_ext_int {a b : Fin q} (h : (a.val : Int) = (b.val : Int)) : a = b := Fin.ext (by omega)
theorem cF_add (x y : Int) : cF (q := q) (x + y) = cF x + cF y := by
  apply fin_ext_int
  rw [cF_val, Fin.val_add, Int.natCast_emod, Int.natCast_add, cF_val, cF_val, ← Int.add_emod]
theorem cF_mul (x y : Int) : cF (q := q) (x * y) = cF x * cF y := by
  apply fin_ext_int
  rw [cF_val, Fin.val_mul, Int.natCast_emod, Int.natCast_mul, cF_val, cF_val, ← Int.mul_emod]
theorem cF_mod (x : Int) : cF (q := q) (x % q) = cF x := by
  apply fin_ext_int
  rw [cF_val, cF_val, Int.emod_emod]
theorem cF_zero : cF (q := q) 0 = 0 := by
  have h := cF_add (q := q) 0 0
  rw [Int.add_zero] at h
  grind
theorem cF_sub (x y : Int) : cF (q := q) (x - y) = cF x - cF y := by
  have h := cF_add (q := q) (x - y) y
  rw [Int.sub_add_cancel] at h
  grind
theorem cF_inj {x y : Int} (hx : 0 ≤ x ∧ x < q) (hy : 0 ≤ y ∧ y < q) (h : cF (q := q) x = cF y) : x = y := by
  have h1 := congrArg (fun a : Fin q => (a.val : Int)) h
  simp only [cF_val] at h1
  rw [Int.emod_eq_of_lt hx.1 hx.2, Int.emod_eq_of_lt hy.1 hy.2] at h1
  exact h1
theorem cF_ne {x : Int} (hx : 0 ≤ x ∧ x < q) : cF (q := q) x ≠ 0 ↔ x ≠ 0 := by
  constructor
  · intro h e
    rw [e] at h
    exact h cF_zero
  · intro h e
    rw [← cF_zero] at e
    exact h (cF_inj hx ⟨by omega, by omega⟩ e)
theorem cF_one (h : 2 ≤ q) : cF (q := q) 1 = 1 := by
  apply fin_ext_int
  rw [cF_val, Int.emod_eq_of_lt (by omega) (by omega)]
  have : (1 : Fin q).val = 1 % q := rfl
  rw [this, Nat.mod_eq_of_lt (by omega)]
  rfl
theorem one_ne (h : 2 ≤ q) : (1 : Fin q) ≠ 0 := by
  rw [← cF_one h]
  exact (cF_ne ⟨by omega, by omega⟩).mpr (by omega)
/-- a row as a vector -/
def toV (r : List Int) : Vec q := fun i => cF (r.getD i 0)
def RowsOk (p : Int) (n : Nat) (rows : List (List Int)) : Prop := ∀ r ∈ rows, r.length = n ∧ ∀ x ∈ r, 0 ≤ x ∧ x < p
def invF (f : Fin q) : Fin q := cF (ctr q (f.val : Int))
theorem invF_ok (h : Fld (q : Int)) : ∀ a : Fin q, a ≠ 0 → invF a * a = 1 := by
  intro a ha
  have hv : 1 ≤ (a.val : Int) := by
    have : a.val ≠ 0 := fun e => ha (Fin.ext (by rw [e]; rfl))
    omega
  obtain ⟨_, _, h3⟩ := ctr_ok h hv (by have := a.isLt; omega)
  have e : a = cF (q := q) (a.val : Int) := by
    apply fin_ext_int
    rw [cF_val, Int.emod_eq_of_lt (by omega) (by have := a.isLt; omega)]
  have h2 : (2 : Int) ≤ q := h.1
  show cF (ctr q (a.val : Int)) * a = 1
  rw [show cF (q := q) (ctr q (a.val : Int)) * a = cF (ctr q (a.val : Int)) * cF (a.val : Int) by rw [← e], ← cF_mul, ← cF_mod, Int.mul_comm, h3, cF_one (by omega)]
theorem getD_lt {r : List Int} {p : Int} (hp : 0 < p) (h : ∀ x ∈ r, 0 ≤ x ∧ x < p) (i : Nat) : 0 ≤ r.getD i 0 ∧ r.getD i 0 < p := by
  by_cases hi : i < r.length
  · rw [gd_lt hi]
    exact h _ (List.getElem_mem hi)
  · rw [gd_ge (by omega)]
    omega
theorem toV_wid {r : List Int} {n : Nat} (h : r.length = n) (i : Nat) (hi : n ≤ i) : toV (q := q) r i = 0 := by
  show cF (r.getD i 0) = 0
  rw [gd_ge (by omega), cF_zero]
theorem toV_inj {x y : List Int} (hl : x.length = y.length) (hx : ∀ v ∈ x, 0 ≤ v ∧ v < (q : Int)) (hy : ∀ v ∈ y, 0 ≤ v ∧ v < (q : Int)) (h : toV (q := q) x = toV y) : x = y := by
  apply List.ext_getElem hl
  intro i h1 h2
  have e := congrFun h i
  have e : cF (q := q) (x.getD i 0) = cF (y.getD i 0) := e
  rw [gd_lt h1, gd_lt h2] at e
  exact cF_inj (hx _ (List.getElem_mem h1)) (hy _ (List.getElem_mem h2)) e
theorem getD_zipWith (f : Int → Int → Int) {x y : List Int} (h : x.length = y.length) {i : Nat} (hi : i < x.length) : (List.zipWith f x y).getD i 0 = f (x.getD i 0) (y.getD i 0) := by
  rw [gd_lt (by rw [List.length_zipWith]; omega), List.getElem_zipWith, gd_lt hi, gd_lt (by omega)]
theorem toV_less {x y : List Int} (h : x.length = y.length) (j : Nat) : toV (q := q) (lessR q x y j) = lessV (toV x) (toV y) j := by
  funext i
  show cF ((lessR q x y j).getD i 0) = cF (x.getD i 0) - cF (x.getD j 0) * cF (y.getD i 0)
  by_cases hi : i < x.length
  · unfold lessR
    rw [getD_zipWith _ h hi, cF_mod, cF_sub, cF_mul]
  · rw [gd_ge (by unfold lessR; rw [List.length_zipWith]; omega), gd_ge (r := x) (by omega), gd_ge (r := y) (by omega), cF_zero]
    grind
theorem toV_own {a : List Int} (ha : ∀ v ∈ a, 0 ≤ v ∧ v < (q : Int)) (j : Nat) : toV (q := q) (ownR q a j) = ownV invF (toV a) j := by
  funext i
  have hj := getD_lt q_pos ha j
  have ev : ((cF (q := q) (a.getD j 0)).val : Int) = a.getD j 0 := by rw [cF_val, Int.emod_eq_of_lt hj.1 hj.2]
  show cF ((ownR q a j).getD i 0) = cF (ctr q ((cF (q := q) (a.getD j 0)).val : Int)) * cF (a.getD i 0)
  rw [ev]
  by_cases hi : i < a.length
  · unfold ownR
    rw [gd_lt (by rw [List.length_map]; exact hi), List.getElem_map, cF_mod, cF_mul, gd_lt (r := a) hi]
  · rw [gd_ge (by unfold ownR; rw [List.length_map]; omega), gd_ge (r := a) (i := i) (by omega), cF_zero]
    grind
theorem less_row {p : Int} (hp : 0 < p) {x y : List Int} {n : Nat} (hx : x.length = n) (hy : y.length = n) (j : Nat) : (lessR p x y j).length = n ∧ ∀ v ∈ lessR p x y j, 0 ≤ v ∧ v < p := by
  refine ⟨by unfold lessR; rw [List.length_zipWith]; omega, fun v hv => ?_⟩
  unfold lessR at hv
  rw [List.mem_iff_getElem?] at hv
  obtain ⟨i, hi⟩ := hv
  rw [List.getElem?_zipWith] at hi
  split at hi
  · cases Option.some.inj hi
    exact ⟨Int.emod_nonneg _ (by omega), Int.emod_lt_of_pos _ hp⟩
  · cases hi
theorem own_row {p : Int} (hp : 0 < p) {a : List Int} {n : Nat} (ha : a.length = n) (j : Nat) : (ownR p a j).length = n ∧ ∀ v ∈ ownR p a j, 0 ≤ v ∧ v < p := by
  refine ⟨by unfold ownR; rw [List.length_map]; exact ha, fun v hv => ?_⟩
  unfold ownR at hv
  obtain ⟨r, _, rfl⟩ := List.mem_map.mp hv
  exact ⟨Int.emod_nonneg _ (by omega), Int.emod_lt_of_pos _ hp⟩
theorem step_rows {p : Int} (hp : 0 < p) {n : Nat} {st : List (List Int) × List (List Int)} (h1 : RowsOk p n st.1) (h2 : RowsOk p n st.2) (k : Nat) : RowsOk p n (stepR p st k).1 ∧ RowsOk p n (stepR p st k).2 ∧ (stepR p st k).1.length = st.1.length ∧ (stepR p st k).2.length ≤ st.2.length + 1 := by
  unfold stepR
  split
  · exact ⟨h1, h2, rfl, by omega⟩
  · rename_i a r hf
    obtain ⟨ha, _⟩ := filter_head hf
    have ho := own_row hp (h1 a ha).1 k
    refine ⟨fun x hx => ?_, fun x hx => ?_, by rw [List.length_map], by rw [List.length_append, List.length_map]; simp⟩
    · obtain ⟨y, my, rfl⟩ := List.mem_map.mp hx
      exact less_row hp (h1 y my).1 ho.1 k
    · rcases List.mem_append.mp hx with hx | hx
      · obtain ⟨y, my, rfl⟩ := List.mem_map.mp hx
        exact less_row hp (h2 y my).1 ho.1 k
      · have : x = ownR p a k := by simpa using hx
        rw [this]
        exact ho
/-- the steps of both sides -/
theorem step_sim {n : Nat} {st : List (List Int) × List (List Int)} {sv : List (Vec q) × List (Nat × Vec q)} (h1 : RowsOk q n st.1) (h2 : RowsOk q n st.2) (e1 : st.1.map (toV (q := q)) = sv.1) (e2 : st.2.map (toV (q := q)) = sv.2.map (·.2)) (k : Nat) :
    (stepR q st k).1.map (toV (q := q)) = (stepV invF sv k).1 ∧ (stepR q st k).2.map (toV (q := q)) = (stepV invF sv k).2.map (·.2) := by
  have hf : sv.1.filter (fun x => decide (x k ≠ 0)) = (st.1.filter (fun r => decide (r.getD k 0 ≠ 0))).map (toV (q := q)) := by
    rw [← e1, List.filter_map]
    congr 1
    apply List.filter_congr
    intro r hr
    have := cF_ne (q := q) (getD_lt q_pos (h1 r hr).2 k)
    show decide (cF (q := q) (r.getD k 0) ≠ 0) = decide (r.getD k 0 ≠ 0)
    simp only [this]
  unfold stepR stepV
  rw [hf]
  cases hl : st.1.filter (fun r => decide (r.getD k 0 ≠ 0)) with
  | nil => exact ⟨e1, e2⟩
  | cons a r =>
    obtain ⟨ha, _⟩ := filter_head hl
    have ho := own_row (q_pos (q := q)) (h1 a ha).1 k
    have eo : toV (q := q) (ownR q a k) = ownV invF (toV a) k := toV_own (h1 a ha).2 k
    simp only [List.map_cons]
    constructor
    · rw [← e1, List.map_map, List.map_map]
      apply List.map_congr_left
      intro x hx
      show toV (lessR q x (ownR q a k) k) = lessV (toV x) (ownV invF (toV a) k) k
      rw [toV_less (by rw [(h1 x hx).1, ho.1]), eo]
    · rw [List.map_append, List.map_append, List.map_map, List.map_map, List.map_cons, List.map_cons, List.map_nil, List.map_nil, eo]
      congr 1
      have e3 : sv.2.map ((fun b : Nat × Vec q => b.2) ∘ fun b => (b.1, lessV b.2 (ownV invF (toV a) k) k)) = (sv.2.map (·.2)).map fun v => lessV v (ownV invF (toV a) k) k := by
        rw [List.map_map]
        rfl
      rw [e3, ← e2, List.map_map]
      apply List.map_congr_left
      intro x hx
      show toV (lessR q x (ownR q a k) k) = lessV (toV x) (ownV invF (toV a) k) k
      rw [toV_less (by rw [(h2 x hx).1, ho.1]), eo]
theorem steps_sim {n : Nat} {rows : List (List Int)} (h : RowsOk q n rows) : ∀ k, RowsOk q n ((List.range k).foldl (stepR q) (rows, [])).1 ∧ RowsOk q n ((List.range k).foldl (stepR q) (rows, [])).2 ∧
    ((List.range k).foldl (stepR q) (rows, [])).1.map (toV (q := q)) = ((List.range k).foldl (stepV invF) (rows.map (toV (q := q)), [])).1 ∧ ((List.range k).foldl (stepR q) (rows, [])).2.map (toV (q := q)) = ((List.range k).foldl (stepV invF) (rows.map (toV (q := q)), [])).2.map (·.2)
  | 0 => ⟨h, fun r hr => (nomatch hr), rfl, rfl⟩
  | k + 1 => by
    obtain ⟨a, b, c, d⟩ := steps_sim h k
    rw [List.range_succ, List.foldl_append, List.foldl_append]
    obtain ⟨e1, e2, _, _⟩ := step_rows q_pos a b k
    obtain ⟨f1, f2⟩ := step_sim a b c d k
    exact ⟨e1, e2, f1, f2⟩
theorem plainR_rows {n : Nat} {rows : List (List Int)} (h : RowsOk q n rows) : RowsOk q n (plainR q n rows) := (steps_sim h n).2.1
theorem plainR_eq {n : Nat} {rows : List (List Int)} (h : RowsOk q n rows) : (plainR q n rows).map (toV (q := q)) = (plainV invF n (rows.map (toV (q := q)))).map (·.2) := (steps_sim h n).2.2.2
theorem rows_wid {n : Nat} {rows : List (List Int)} (h : RowsOk q n rows) : ∀ x ∈ rows.map (toV (q := q)), ∀ i, n ≤ i → x i = 0 := by
  intro x hx i hi
  obtain ⟨r, mr, rfl⟩ := List.mem_map.mp hx
  exact toV_wid (h r mr).1 i hi
/-- what rows make -/
def Mk (q : Nat) [NeZero q] (rows : List (List Int)) (x : Vec q) : Prop := Spn (rows.map (toV (q := q))) x
/-- a plain form -/
def IsPF (q : Nat) [NeZero q] (n : Nat) (room : List (List Int)) : Prop := RowsOk q n room ∧ ∃ bs : List (Nat × Vec q), PF n bs ∧ bs.map (·.2) = room.map (toV (q := q))
theorem plainR_pf (hF : Fld (q : Int)) {n : Nat} {rows : List (List Int)} (h : RowsOk q n rows) : IsPF q n (plainR q n rows) := ⟨plainR_rows h, _, plainV_pf invF (invF_ok hF) (rows_wid h), (plainR_eq h).symm⟩
theorem plainR_mk (hF : Fld (q : Int)) {n : Nat} {rows : List (List Int)} (h : RowsOk q n rows) (x : Vec q) : Mk q (plainR q n rows) x ↔ Mk q rows x := by
  unfold Mk
  rw [plainR_eq h]
  exact plainV_spn invF (invF_ok hF) (rows_wid h) x
theorem map_inj {n : Nat} : ∀ {xs ys : List (List Int)}, RowsOk q n xs → RowsOk q n ys → xs.map (toV (q := q)) = ys.map (toV (q := q)) → xs = ys
  | [], [], _, _, _ => rfl
  | [], _ :: _, _, _, e => by cases e
  | _ :: _, [], _, _, e => by cases e
  | x :: xs, y :: ys, hx, hy, e => by
    rw [List.map_cons, List.map_cons] at e
    have h1 := hx x List.mem_cons_self
    have h2 := hy y List.mem_cons_self
    have e1 : x = y := toV_inj (by rw [h1.1, h2.1]) h1.2 h2.2 (List.cons.inj e).1
    rw [e1, map_inj (fun r hr => hx r (List.mem_cons_of_mem _ hr)) (fun r hr => hy r (List.mem_cons_of_mem _ hr)) (List.cons.inj e).2]
/-- each room has just one plain form -/
theorem IsPF.uniq (hF : Fld (q : Int)) {n : Nat} {one other : List (List Int)} (h1 : IsPF q n one) (h2 : IsPF q n other) (h : ∀ x, Mk q one x ↔ Mk q other x) : one = other := by
  obtain ⟨r1, bs, b1, e1⟩ := h1
  obtain ⟨r2, cs, c1, e2⟩ := h2
  have h2' : (2 : Int) ≤ q := hF.1
  have e := b1.uniq (one_ne (by omega)) c1 fun x => by
    rw [e1, e2]
    exact h x
  exact map_inj r1 r2 (by rw [← e1, ← e2, e])
theorem IsPF.plain (hF : Fld (q : Int)) {n : Nat} {room rows : List (List Int)} (h1 : IsPF q n room) (h : RowsOk q n rows) (hm : ∀ x, Mk q room x ↔ Mk q rows x) : room = plainR q n rows :=
  h1.uniq hF (plainR_pf hF h) fun x => (hm x).trans (plainR_mk hF h x).symm
theorem plainR_len {n : Nat} {rows : List (List Int)} (h : RowsOk q n rows) : (plainR q n rows).length = (plainV invF n (rows.map (toV (q := q)))).length := by
  have := congrArg List.length (plainR_eq h)
  rw [List.length_map, List.length_map] at this
  exact this
theorem plainR_has (hF : Fld (q : Int)) {n : Nat} {rows : List (List Int)} {r : List Int} (h : RowsOk q n rows) (hr : RowsOk q n [r]) : (plainR q n (rows ++ [r])).length = (plainR q n rows).length ↔ Mk q rows (toV r) := by
  have h2 : (2 : Int) ≤ q := hF.1
  have hr' := hr r List.mem_cons_self
  have hall : RowsOk q n (rows ++ [r]) := fun x hx => by
    rcases List.mem_append.mp hx with h' | h'
    · exact h x h'
    · exact hr x h'
  rw [plainR_len h, plainR_len hall, List.map_append, List.map_cons, List.map_nil]
  exact plainV_has invF (one_ne (by omega)) (invF_ok hF) (rows_wid h) fun i hi => toV_wid hr'.1 i hi
end
end OC

/-! a row more: one first place more, or none; worlds that part -/
namespace Lin
set_option linter.all false
section
variable {p : Nat} [NeZero p]
theorem exists_lead {x : Vec p} : ∀ (j : Nat), x j ≠ 0 → ∃ k, k ≤ j ∧ Lead x k := by
  intro j
  induction j using Nat.strongRecOn with
  | _ j ih =>
    intro h
    by_cases hz : ∀ i, i < j → x i = 0
    · exact ⟨j, Nat.le_refl j, h, hz⟩
    · obtain ⟨i, hi⟩ := Classical.not_forall.mp hz
      have hi' : i < j ∧ x i ≠ 0 := Classical.not_imp.mp hi
      obtain ⟨k, hk, l⟩ := ih i hi'.1 hi'.2
      exact ⟨k, by omega, l⟩
/-- x less what the rows tell of it -/
def leftV (bs : List (Nat × Vec p)) (x : Vec p) : Vec p := fun i => x i - red bs x i
theorem left_at {n : Nat} {bs : List (Nat × Vec p)} (h : PF n bs) (x : Vec p) {c : Nat × Vec p} (hc : c ∈ bs) : leftV bs x c.1 = 0 := by
  show x c.1 - red bs x c.1 = 0
  rw [h.at x hc]
  grind
theorem left_zero {n : Nat} {bs : List (Nat × Vec p)} (h : PF n bs) (x : Vec p) : leftV bs x = zeroV ↔ Spn (bs.map (·.2)) x := by
  constructor
  · intro e
    have : x = red bs x := by
      funext i
      have h0 := congrFun e i
      have h0 : x i - red bs x i = 0 := h0
      grind
    rw [this]
    exact spn_red bs x
  · intro hx
    funext i
    show x i - red bs x i = 0
    rw [h.told hx]
    grind
/-- sums of a row of the room and of so many of v -/
theorem spn_more {vs : List (Vec p)} {v x : Vec p} (hx : Spn (vs ++ [v]) x) : ∃ s c, Spn vs s ∧ x = addV s (mulV c v) := by
  have hS : Sub (fun x : Vec p => ∃ s c, Spn vs s ∧ x = addV s (mulV c v)) := by
    refine ⟨⟨zeroV, 0, (spn_sub vs).zero, ?_⟩, ?_, ?_⟩
    · funext i
      show (0 : Fin p) = 0 + 0 * v i
      grind
    · rintro x y ⟨s, c, hs, rfl⟩ ⟨t, d, ht, rfl⟩
      refine ⟨addV s t, c + d, (spn_sub vs).add hs ht, ?_⟩
      funext i
      show s i + c * v i + (t i + d * v i) = s i + t i + (c + d) * v i
      grind
    · rintro d x ⟨s, c, hs, rfl⟩
      refine ⟨mulV d s, d * c, (spn_sub vs).mul d hs, ?_⟩
      funext i
      show d * (s i + c * v i) = d * s i + d * c * v i
      grind
  refine spn_le hS (fun w hw => ?_) hx
  rcases List.mem_append.mp hw with h | h
  · refine ⟨w, 0, spn_mem h, ?_⟩
    funext i
    show w i = w i + 0 * v i
    grind
  · have : w = v := by simpa using h
    subst this
    refine ⟨zeroV, 1, (spn_sub vs).zero, ?_⟩
    funext i
    show w i = 0 + 1 * w i
    grind
/-- the first places of a row of the greater room -/
theorem lead_more {n : Nat} {bs : List (Nat × Vec p)} (h : PF n bs) {v : Vec p} {j k : Nat} {x : Vec p} (hj : Lead (leftV bs v) j) (hfld : ∀ a b : Fin p, a * b = 0 → a = 0 ∨ b = 0) (hx : Spn (bs.map (·.2) ++ [v]) x) (hk : Lead x k) : (∃ b ∈ bs, b.1 = k) ∨ k = j := by
  obtain ⟨s, c, hs, rfl⟩ := spn_more hx
  -- with the left of v in its place
  have e : addV s (mulV c v) = addV (addV s (mulV c (red bs v))) (mulV c (leftV bs v)) := by
    funext i
    show s i + c * v i = s i + c * red bs v i + c * (v i - red bs v i)
    grind
  have hs' : Spn (bs.map (·.2)) (addV s (mulV c (red bs v))) := (spn_sub _).add hs ((spn_sub _).mul c (spn_red bs v))
  rw [e] at hk
  generalize addV s (mulV c (red bs v)) = t at hs' hk
  by_cases hc : c = 0
  · subst hc
    have e2 : addV t (mulV 0 (leftV bs v)) = t := by
      funext i
      show t i + 0 * leftV bs v i = t i
      grind
    rw [e2] at hk
    exact .inl (h.lead hs' hk)
  · have val : ∀ i, addV t (mulV c (leftV bs v)) i = t i + c * leftV bs v i := fun _ => rfl
    rcases Nat.lt_trichotomy k j with hlt | heq | hgt
    · have lt : Lead t k := by
        refine ⟨?_, fun i hi => ?_⟩
        · have h1 := hk.1
          rw [val, hj.2 k hlt] at h1
          intro z
          apply h1
          rw [z]
          grind
        · have h1 := hk.2 i hi
          rw [val, hj.2 i (by omega)] at h1
          grind
      exact .inl (h.lead hs' lt)
    · exact .inr heq
    · have lt : Lead t j := by
        refine ⟨fun z => ?_, fun i hi => ?_⟩
        · have h1 := hk.2 j hgt
          rw [val, z] at h1
          have h2 : c * leftV bs v j = 0 := by grind
          rcases hfld _ _ h2 with h3 | h3
          · exact hc h3
          · exact hj.1 h3
        · have h1 := hk.2 i (by omega)
          rw [val, hj.2 i hi] at h1
          grind
      obtain ⟨b, mb, eb⟩ := h.lead hs' lt
      have := left_at h v mb
      rw [eb] at this
      exact absurd this hj.1
theorem sorted_more {l m : List Nat} {j : Nat} (hl : l.Pairwise (· < ·)) (hm : m.Pairwise (· < ·)) (h : ∀ x ∈ l, x ∈ m ∨ x = j) : l.length ≤ m.length + 1 := by
  have nd : l.Nodup := hl.imp fun h => Nat.ne_of_lt h
  have s := List.erase_sublist (a := j) (l := l)
  have h1 := (sorted_len (hl.sublist s) hm fun x hx => by
    rcases h x (List.mem_of_mem_erase hx) with h | h
    · exact h
    · subst h
      exact absurd hx (List.Nodup.not_mem_erase nd)).1
  have h2 := List.length_erase (a := j) (l := l)
  split at h2 <;> omega
variable (inv : Fin p → Fin p)
/-- a row more that is not made: one row more -/
theorem plainV_more {n : Nat} {vs : List (Vec p)} {v : Vec p} (h1 : (1 : Fin p) ≠ 0) (hinv : ∀ a : Fin p, a ≠ 0 → inv a * a = 1) (hw : ∀ x ∈ vs, ∀ i, n ≤ i → x i = 0) (hv : ∀ i, n ≤ i → v i = 0) (hn : ¬ Spn vs v) :
    (plainV inv n (vs ++ [v])).length = (plainV inv n vs).length + 1 := by
  have hfld : ∀ a b : Fin p, a * b = 0 → a = 0 ∨ b = 0 := fun a b e => by
    by_cases ha : a = 0
    · exact .inl ha
    · have := hinv a ha
      refine .inr ?_
      have : b = inv a * (a * b) := by grind
      rw [e] at this
      grind
  have hw' : ∀ x ∈ vs ++ [v], ∀ i, n ≤ i → x i = 0 := fun x hx => by
    rcases List.mem_append.mp hx with h | h
    · exact hw x h
    · have : x = v := by simpa using h
      rw [this]
      exact hv
  have A := plainV_pf inv hinv hw
  have B := plainV_pf inv hinv hw'
  have sa := plainV_spn inv hinv hw
  have sb := plainV_spn inv hinv hw'
  have ne : leftV (plainV inv n vs) v ≠ zeroV := fun e => hn ((sa v).mp ((left_zero A v).mp e))
  obtain ⟨j0, hj0⟩ : ∃ j, leftV (plainV inv n vs) v j ≠ 0 := by
    apply Classical.byContradiction
    intro hz
    apply ne
    funext i
    exact Classical.byContradiction fun q => hz ⟨i, q⟩
  obtain ⟨j, _, hj⟩ := exists_lead j0 hj0
  have up : (plainV inv n (vs ++ [v])).length ≤ (plainV inv n vs).length + 1 := by
    have := sorted_more (j := j) (List.pairwise_map.mpr B.inc) (List.pairwise_map.mpr A.inc) fun x hx => by
      obtain ⟨b, mb, rfl⟩ := List.mem_map.mp hx
      have hb : Spn ((plainV inv n vs).map (·.2) ++ [v]) b.2 := by
        refine spn_append (spn_sub _) (fun y hy => spn_left ((sa y).mpr hy)) (fun y hy => spn_right hy) b.2 ((sb b.2).mp (spn_mem (List.mem_map_of_mem mb)))
      rcases lead_more A hj hfld hb (B.leads h1 mb) with ⟨c, mc, e⟩ | e
      · exact .inl (List.mem_map.mpr ⟨c, mc, e⟩)
      · exact .inr e
    rw [List.length_map, List.length_map] at this
    exact this
  have low : (plainV inv n vs).length ≤ (plainV inv n (vs ++ [v])).length := plainV_len_le inv h1 hinv hw hw' fun x hx => spn_left hx
  have neq : (plainV inv n (vs ++ [v])).length ≠ (plainV inv n vs).length := fun e => hn ((plainV_has inv h1 hinv hw hv).mp e)
  omega
/-! ### worth: the sum over the places -/
def dot : Nat → Vec p → Vec p → Fin p
  | 0, _, _ => 0
  | n + 1, x, y => dot n x y + x n * y n
theorem dot_add (n : Nat) (x y w : Vec p) : dot n (addV x y) w = dot n x w + dot n y w := by
  induction n with
  | zero => simp only [dot]; grind
  | succ n ih =>
    simp only [dot]
    rw [ih]
    show dot n x w + dot n y w + (x n + y n) * w n = dot n x w + x n * w n + (dot n y w + y n * w n)
    grind
theorem dot_mul (n : Nat) (c : Fin p) (x w : Vec p) : dot n (mulV c x) w = c * dot n x w := by
  induction n with
  | zero => simp only [dot]; grind
  | succ n ih =>
    simp only [dot]
    rw [ih]
    show c * dot n x w + c * x n * w n = c * (dot n x w + x n * w n)
    grind
theorem dot_comm (n : Nat) (x y : Vec p) : dot n x y = dot n y x := by
  induction n with
  | zero => rfl
  | succ n ih =>
    simp only [dot]
    rw [ih]
    grind
theorem dot_zero (n : Nat) (w : Vec p) : dot n zeroV w = 0 := by
  induction n with
  | zero => rfl
  | succ n ih =>
    simp only [dot]
    rw [ih]
    show (0 : Fin p) + 0 * w n = 0
    grind
theorem dot_sub (n : Nat) (w : Vec p) (c : Fin p) : Sub (fun x : Vec p => dot n x w = 0) := by
  refine ⟨dot_zero n w, fun {x y} hx hy => ?_, fun c {x} hx => ?_⟩
  · show dot n (addV x y) w = 0
    rw [dot_add, hx, hy]
    grind
  · show dot n (mulV c x) w = 0
    rw [dot_mul, hx]
    grind
end
end Lin

/-! worlds that part; sizes of sums and of what two rooms share -/
namespace Lin
set_option linter.all false
section
variable {p : Nat} [NeZero p]
def unitV (j : Nat) : Vec p := fun i => if i = j then 1 else 0
theorem dot_unit (n : Nat) (x : Vec p) (j : Nat) : dot n x (unitV j) = if j < n then x j else 0 := by
  induction n with
  | zero => simp [dot]
  | succ n ih =>
    simp only [dot]
    rw [ih]
    unfold unitV
    by_cases h1 : n = j
    · subst h1
      rw [if_neg (Nat.lt_irrefl n), if_pos (Nat.lt_succ_self n)]
      simp only [if_true]
      grind
    · rw [if_neg h1]
      by_cases h2 : j < n
      · rw [if_pos h2, if_pos (by omega)]
        grind
      · rw [if_neg h2, if_neg (by omega)]
        grind
/-- the world at which a row is worth what is left of it at the place j -/
def crossV : List (Nat × Vec p) → Nat → Vec p
  | [], j => unitV j
  | b :: bs, j => addV (mulV (-(b.2 j)) (unitV b.1)) (crossV bs j)
theorem dot_cross (n : Nat) : ∀ (bs : List (Nat × Vec p)) (x : Vec p) (j : Nat), (∀ b ∈ bs, b.1 < n) → j < n → dot n x (crossV bs j) = leftV bs x j
  | [], x, j, _, hj => by
    simp only [crossV]
    rw [dot_unit, if_pos hj]
    show x j = x j - 0
    grind
  | b :: bs, x, j, hb, hj => by
    have ih := dot_cross n bs x j (fun c hc => hb c (List.mem_cons_of_mem _ hc)) hj
    simp only [crossV]
    rw [dot_comm, dot_add, dot_mul, dot_comm n (unitV b.1) x, dot_comm n (crossV bs j) x, ih, dot_unit, if_pos (hb b List.mem_cons_self)]
    show -(b.2 j) * x b.1 + (x j - red bs x j) = x j - (x b.1 * b.2 j + red bs x j)
    grind
theorem cross_wid : ∀ (bs : List (Nat × Vec p)) (n j : Nat), (∀ b ∈ bs, b.1 < n) → j < n → ∀ i, n ≤ i → crossV bs j i = 0
  | [], n, j, _, hj, i, hi => by
    show (if i = j then (1 : Fin p) else 0) = 0
    rw [if_neg (by omega)]
  | b :: bs, n, j, hb, hj, i, hi => by
    have ih := cross_wid bs n j (fun c hc => hb c (List.mem_cons_of_mem _ hc)) hj i hi
    have := hb b List.mem_cons_self
    show -(b.2 j) * (if i = b.1 then (1 : Fin p) else 0) + crossV bs j i = 0
    rw [if_neg (by omega), ih]
    grind
/-- a row that is not made is parted from the rows by a world -/
theorem PF.part {n : Nat} {bs : List (Nat × Vec p)} (h : PF n bs) {v : Vec p} (hv : ∀ i, n ≤ i → v i = 0) (hn : ¬ Spn (bs.map (·.2)) v) : ∃ j, j < n ∧ dot n v (crossV bs j) ≠ 0 ∧ ∀ x, Spn (bs.map (·.2)) x → dot n x (crossV bs j) = 0 := by
  obtain ⟨j, hj⟩ : ∃ j, leftV bs v j ≠ 0 := by
    apply Classical.byContradiction
    intro hz
    apply hn
    refine (left_zero h v).mp ?_
    funext i
    exact Classical.byContradiction fun q => hz ⟨i, q⟩
  have hjn : j < n := by
    apply Classical.byContradiction
    intro hge
    apply hj
    have hr : ∀ l : List (Nat × Vec p), (∀ b ∈ l, b.2 j = 0) → red l v j = 0 := by
      intro l
      induction l with
      | nil => intro _; rfl
      | cons b l ih =>
        intro hb
        show v b.1 * b.2 j + red l v j = 0
        rw [hb b List.mem_cons_self, ih fun c hc => hb c (List.mem_cons_of_mem _ hc)]
        grind
    show v j - red bs v j = 0
    rw [hv j (by omega), hr bs fun b hb => h.wid b hb j (by omega)]
    grind
  refine ⟨j, hjn, ?_, fun x hx => ?_⟩
  · rw [dot_cross n bs v j h.lt hjn]
    exact hj
  · rw [dot_cross n bs x j h.lt hjn, (left_zero h x).mpr hx]
    rfl
/-! ### sizes -/
variable (inv : Fin p → Fin p)
/-- what a list of rows needs: the size of their room -/
def dim (n : Nat) (vs : List (Vec p)) : Nat := (plainV inv n vs).length
structure Good (n : Nat) : Prop where
  one : (1 : Fin p) ≠ 0
  inv : ∀ a : Fin p, a ≠ 0 → inv a * a = 1
def Wid (n : Nat) (vs : List (Vec p)) : Prop := ∀ x ∈ vs, ∀ i, n ≤ i → x i = 0
theorem Wid.app {n : Nat} {vs ws : List (Vec p)} (h1 : Wid n vs) (h2 : Wid n ws) : Wid n (vs ++ ws) := fun x hx => (List.mem_append.mp hx).elim (h1 x) (h2 x)
theorem Wid.one {n : Nat} {v : Vec p} (h : ∀ i, n ≤ i → v i = 0) : Wid n [v] := fun x hx => by
  have : x = v := by simpa using hx
  rw [this]
  exact h
variable {inv}
theorem Good.same {n : Nat} (g : Good inv n) {vs ws : List (Vec p)} (hv : Wid n vs) (hw : Wid n ws) (h : ∀ x, Spn vs x ↔ Spn ws x) : dim inv n vs = dim inv n ws :=
  Nat.le_antisymm (plainV_len_le inv g.one g.inv hv hw fun x hx => (h x).mp hx) (plainV_len_le inv g.one g.inv hw hv fun x hx => (h x).mpr hx)
theorem Good.le {n : Nat} (g : Good inv n) {vs ws : List (Vec p)} (hv : Wid n vs) (hw : Wid n ws) (h : ∀ x, Spn vs x → Spn ws x) : dim inv n vs ≤ dim inv n ws := plainV_len_le inv g.one g.inv hv hw h
theorem Good.in_ {n : Nat} (g : Good inv n) {vs : List (Vec p)} {v : Vec p} (hv : Wid n vs) (hw : ∀ i, n ≤ i → v i = 0) (h : Spn vs v) : dim inv n (vs ++ [v]) = dim inv n vs := (plainV_has inv g.one g.inv hv hw).mpr h
theorem Good.out {n : Nat} (g : Good inv n) {vs : List (Vec p)} {v : Vec p} (hv : Wid n vs) (hw : ∀ i, n ≤ i → v i = 0) (h : ¬ Spn vs v) : dim inv n (vs ++ [v]) = dim inv n vs + 1 := plainV_more inv g.one g.inv hv hw h
theorem dim_nil (n : Nat) : dim inv n ([] : List (Vec p)) = 0 := by
  have h : ∀ k, (List.range k).foldl (stepV inv) (([] : List (Vec p)), []) = ([], []) := by
    intro k
    induction k with
    | zero => rfl
    | succ k ih =>
      rw [List.range_succ, List.foldl_append, ih]
      rfl
  unfold dim plainV
  rw [h n]
  rfl
theorem spn_app {vs ws : List (Vec p)} {x : Vec p} : Spn (vs ++ ws) x ↔ ∃ s t, Spn vs s ∧ Spn ws t ∧ x = addV s t := by
  constructor
  · intro hx
    have hS : Sub (fun x : Vec p => ∃ s t, Spn vs s ∧ Spn ws t ∧ x = addV s t) := by
      refine ⟨⟨zeroV, zeroV, (spn_sub vs).zero, (spn_sub ws).zero, (zero_add _).symm⟩, ?_, ?_⟩
      · rintro x y ⟨s, t, hs, ht, rfl⟩ ⟨s', t', hs', ht', rfl⟩
        refine ⟨addV s s', addV t t', (spn_sub vs).add hs hs', (spn_sub ws).add ht ht', ?_⟩
        funext i
        show s i + t i + (s' i + t' i) = s i + s' i + (t i + t' i)
        grind
      · rintro c x ⟨s, t, hs, ht, rfl⟩
        refine ⟨mulV c s, mulV c t, (spn_sub vs).mul c hs, (spn_sub ws).mul c ht, ?_⟩
        funext i
        show c * (s i + t i) = c * s i + c * t i
        grind
    refine spn_le hS (fun w hw => ?_) hx
    rcases List.mem_append.mp hw with h | h
    · refine ⟨w, zeroV, spn_mem h, (spn_sub ws).zero, ?_⟩
      funext i
      show w i = w i + 0
      grind
    · exact ⟨zeroV, w, (spn_sub vs).zero, spn_mem h, (zero_add w).symm⟩
  · rintro ⟨s, t, hs, ht, rfl⟩
    exact (spn_sub _).add (spn_left hs) (spn_right ht)
/-- what two rooms share: rows that make it, and the sizes -/
theorem Good.meet {n : Nat} (g : Good inv n) {us : List (Vec p)} (hu : Wid n us) : ∀ (m : Nat) (ws : List (Vec p)), ws.length = m → Wid n ws → ∃ ks, Wid n ks ∧ (∀ x, Spn ks x ↔ Spn us x ∧ Spn ws x) ∧ dim inv n (us ++ ws) + dim inv n ks = dim inv n us + dim inv n ws
  | 0, ws, hl, hw => by
    have e : ws = [] := List.eq_nil_of_length_eq_zero hl
    subst e
    refine ⟨[], fun x hx => (nomatch hx), fun x => ⟨fun hx => ⟨?_, hx⟩, fun hx => hx.2⟩, ?_⟩
    · obtain ⟨fs, e⟩ := hx
      rw [e, lin_nil']
      exact (spn_sub us).zero
    · rw [List.append_nil, dim_nil]
  | m + 1, ws, hl, hw => by
    obtain ⟨ws', w, rfl⟩ : ∃ ws' w, ws = ws' ++ [w] := by
      rcases List.eq_nil_or_concat ws with e | ⟨l, b, e⟩
      · rw [e] at hl
        cases hl
      · exact ⟨l, b, by rw [e, List.concat_eq_append]⟩
    have hw' : Wid n ws' := fun x hx => hw x (List.mem_append_left _ hx)
    have hww : ∀ i, n ≤ i → w i = 0 := hw w (by simp)
    obtain ⟨ks, hk, sk, dk⟩ := meet g hu m ws' (by simpa using hl) hw'
    rw [← List.append_assoc]
    by_cases h1 : Spn ws' w
    · have same : ∀ x, Spn (ws' ++ [w]) x ↔ Spn ws' x := fun x => ⟨fun hx => spn_append (spn_sub ws') (fun _ h => h) (fun y hy => spn_sub_of (fun z hz => by
        have : z = w := by simpa using hz
        rw [this]
        exact h1) hy) x hx, spn_left⟩
      refine ⟨ks, hk, fun x => (sk x).trans ⟨fun h => ⟨h.1, (same x).mpr h.2⟩, fun h => ⟨h.1, (same x).mp h.2⟩⟩, ?_⟩
      rw [g.in_ (hu.app hw') hww (spn_right h1), g.in_ hw' hww h1]
      exact dk
    · rw [g.out hw' hww h1]
      by_cases h2 : Spn (us ++ ws') w
      · rw [g.in_ (hu.app hw') hww h2]
        obtain ⟨u, v, su, sv, ew⟩ := spn_app.mp h2
        -- u = w - v is shared
        have eu : u = fun i => w i - 1 * v i := by
          funext i
          have := congrFun ew i
          have this : w i = u i + v i := this
          grind
        have uw : Spn (ws' ++ [w]) u := by
          rw [eu]
          exact (spn_sub _).less 1 (spn_right (spn_mem (by simp))) (spn_left sv)
        have nu : ¬ Spn ws' u := fun hu' => h1 (by rw [ew]; exact (spn_sub _).add hu' sv)
        have wu : ∀ i, n ≤ i → u i = 0 := fun i hi => by
          have h := hu
          have hz : Sub (fun x : Vec p => x i = 0) := ⟨rfl, fun {x y} hx hy => by show x i + y i = 0; rw [hx, hy]; grind, fun c {x} hx => by show c * x i = 0; rw [hx]; grind⟩
          exact spn_le hz (fun x hx => h x hx i hi) su
        refine ⟨ks ++ [u], hk.app (Wid.one wu), fun x => ⟨fun hx => ?_, fun hx => ?_⟩, ?_⟩
        · have s1 : Sub (fun x : Vec p => Spn us x ∧ Spn (ws' ++ [w]) x) := ⟨⟨(spn_sub _).zero, (spn_sub _).zero⟩, fun {x y} hx hy => ⟨(spn_sub _).add hx.1 hy.1, (spn_sub _).add hx.2 hy.2⟩, fun c {x} hx => ⟨(spn_sub _).mul c hx.1, (spn_sub _).mul c hx.2⟩⟩
          refine spn_le s1 (fun y hy => ?_) hx
          rcases List.mem_append.mp hy with hy | hy
          · have := (sk y).mp (spn_mem hy)
            exact ⟨this.1, spn_left this.2⟩
          · have : y = u := by simpa using hy
            rw [this]
            exact ⟨su, uw⟩
        · obtain ⟨s, c, hs, ex⟩ := spn_more hx.2
          -- x - c u is in both
          have hy : Spn us (fun i => x i - c * u i) := (spn_sub _).less c hx.1 su
          have hy2 : Spn ws' (fun i => x i - c * u i) := by
            have e : (fun i => x i - c * u i) = addV s (mulV c v) := by
              funext i
              have e1 := congrFun ex i
              have e2 := congrFun ew i
              have e1 : x i = s i + c * w i := e1
              have e2 : w i = u i + v i := e2
              show x i - c * u i = s i + c * v i
              grind
            rw [e]
            exact (spn_sub _).add hs ((spn_sub _).mul c sv)
          have hk2 := (sk _).mpr ⟨hy, hy2⟩
          have e : x = addV (fun i => x i - c * u i) (mulV c u) := by
            funext i
            show x i = x i - c * u i + c * u i
            grind
          rw [e]
          exact (spn_sub _).add (spn_left hk2) ((spn_sub _).mul c (spn_right (spn_mem (by simp))))
        · have nk : ¬ Spn ks u := fun h => nu ((sk u).mp h).2
          rw [g.out hk wu nk]
          omega
      · rw [g.out (hu.app hw') hww h2]
        refine ⟨ks, hk, fun x => (sk x).trans ⟨fun h => ⟨h.1, spn_left h.2⟩, fun h => ⟨h.1, ?_⟩⟩, by omega⟩
        obtain ⟨s, c, hs, ex⟩ := spn_more h.2
        by_cases hc : c = 0
        · subst hc
          have e : x = s := by
            rw [ex]
            funext i
            show s i + 0 * w i = s i
            grind
          rw [e]
          exact hs
        · -- w would be made of both
          exfalso
          apply h2
          have hi := g.inv c hc
          have e : w = fun i => mulV (inv c) x i - inv c * s i := by
            funext i
            have e1 := congrFun ex i
            have e1 : x i = s i + c * w i := e1
            show w i = inv c * x i - inv c * s i
            grind
          rw [e]
          exact (spn_sub _).less (inv c) ((spn_sub _).mul (inv c) (spn_left h.1)) (spn_right hs)
/-- the sizes of two rooms, of both together and of what they share -/
theorem Good.sizes {n : Nat} (g : Good inv n) {us ws ks : List (Vec p)} (hu : Wid n us) (hw : Wid n ws) (hk : Wid n ks) (h : ∀ x, Spn ks x ↔ Spn us x ∧ Spn ws x) : dim inv n (us ++ ws) + dim inv n ks = dim inv n us + dim inv n ws := by
  obtain ⟨ls, hl, sl, dl⟩ := g.meet hu _ ws rfl hw
  rw [g.same hk hl fun x => (h x).trans (sl x).symm]
  exact dl
end
end Lin

/-! across: the worlds at which all rows of a room are worth 0 -/
namespace Lin
set_option linter.all false
section
variable {p : Nat} [NeZero p] {inv : Fin p → Fin p}
theorem dot_single {n : Nat} {x y : Vec p} {k : Nat} (hk : k < n) (h : ∀ i, i < n → i ≠ k → x i * y i = 0) : dot n x y = x k * y k := by
  have go : ∀ m, m ≤ n → dot m x y = if k < m then x k * y k else 0 := by
    intro m
    induction m with
    | zero => intro _; simp [dot]
    | succ m ih =>
      intro hm
      simp only [dot]
      rw [ih (by omega)]
      by_cases e : m = k
      · subst e
        rw [if_neg (Nat.lt_irrefl m), if_pos (Nat.lt_succ_self m)]
        grind
      · rw [h m (by omega) e]
        by_cases h2 : k < m
        · rw [if_pos h2, if_pos (by omega)]
          grind
        · rw [if_neg h2, if_neg (by omega)]
          grind
  rw [go n (Nat.le_refl n), if_pos hk]
theorem cross_free : ∀ (l : List (Nat × Vec p)) (j i : Nat), (∀ b ∈ l, b.1 ≠ i) → crossV l j i = if i = j then 1 else 0
  | [], j, i, _ => rfl
  | b :: l, j, i, h => by
    have ih := cross_free l j i fun c hc => h c (List.mem_cons_of_mem _ hc)
    show -(b.2 j) * (if i = b.1 then (1 : Fin p) else 0) + crossV l j i = _
    rw [if_neg (Ne.symm (h b List.mem_cons_self)), ih]
    grind
/-- whether a place is a first place of a row -/
def isFirst (bs : List (Nat × Vec p)) (j : Nat) : Bool := decide (j ∈ bs.map (·.1))
/-- the places that are first places of no row -/
def frees (n : Nat) (bs : List (Nat × Vec p)) : List Nat := (List.range n).filter fun j => !isFirst bs j
theorem mem_frees {n : Nat} {bs : List (Nat × Vec p)} {j : Nat} : j ∈ frees n bs ↔ j < n ∧ ∀ b ∈ bs, b.1 ≠ j := by
  unfold frees isFirst
  rw [List.mem_filter, List.mem_range]
  constructor
  · rintro ⟨h1, h2⟩
    refine ⟨h1, fun b hb e => ?_⟩
    rw [decide_eq_true (List.mem_map.mpr ⟨b, hb, e⟩)] at h2
    cases h2
  · rintro ⟨h1, h2⟩
    refine ⟨h1, ?_⟩
    rw [decide_eq_false fun hm => ?_]
    · rfl
    · obtain ⟨b, mb, e⟩ := List.mem_map.mp hm
      exact h2 b mb e
theorem filter_split (q : Nat → Bool) : ∀ l : List Nat, l.length = (l.filter q).length + (l.filter fun x => !q x).length
  | [] => rfl
  | a :: l => by
    have ih := filter_split q l
    by_cases hq : q a = true
    · rw [List.filter_cons_of_pos hq, List.filter_cons_of_neg (by rw [hq]; decide), List.length_cons, List.length_cons]
      omega
    · have hq' : q a = false := by simpa using hq
      rw [List.filter_cons_of_neg hq, List.filter_cons_of_pos (by rw [hq']; rfl), List.length_cons, List.length_cons]
      omega
theorem frees_len {n : Nat} {bs : List (Nat × Vec p)} (h : PF n bs) : (frees n bs).length + bs.length = n := by
  have e : (List.range n).filter (isFirst bs) = bs.map (·.1) := by
    refine sorted_eq (List.Pairwise.filter _ List.pairwise_lt_range) (List.pairwise_map.mpr h.inc) fun x => ?_
    rw [List.mem_filter, List.mem_range]
    constructor
    · rintro ⟨_, h2⟩
      exact of_decide_eq_true h2
    · intro hx
      obtain ⟨b, mb, e⟩ := List.mem_map.mp hx
      exact ⟨by rw [← e]; exact h.lt b mb, decide_eq_true hx⟩
  have h1 := filter_split (isFirst bs) (List.range n)
  rw [e, List.length_range, List.length_map] at h1
  unfold frees
  omega
/-- so many of each of the worlds by the free places -/
def tellV (bs : List (Nat × Vec p)) (w : Vec p) : List Nat → Vec p
  | [] => zeroV
  | j :: js => addV (mulV (w j) (crossV bs j)) (tellV bs w js)
theorem tell_spn (bs : List (Nat × Vec p)) (w : Vec p) : ∀ js : List Nat, Spn (js.map (crossV bs)) (tellV bs w js)
  | [] => (spn_sub _).zero
  | j :: js => (spn_sub _).add ((spn_sub _).mul _ (spn_mem (by simp))) (spn_tail (tell_spn bs w js))
theorem tell_free (bs : List (Nat × Vec p)) (w : Vec p) {i : Nat} (hi : ∀ b ∈ bs, b.1 ≠ i) : ∀ js : List Nat, js.Nodup → tellV bs w js i = if i ∈ js then w i else 0
  | [], _ => rfl
  | j :: js, nd => by
    have nd' := List.nodup_cons.mp nd
    have ih := tell_free bs w hi js nd'.2
    show w j * crossV bs j i + tellV bs w js i = _
    rw [ih, cross_free bs j i hi]
    by_cases e : i = j
    · subst e
      rw [if_pos rfl, if_neg nd'.1, if_pos List.mem_cons_self]
      grind
    · rw [if_neg e]
      by_cases hm : i ∈ js
      · rw [if_pos hm, if_pos (List.mem_cons_of_mem _ hm)]
        grind
      · rw [if_neg hm, if_neg (by simp [e, hm])]
        grind
/-- worlds at which all rows of a room are worth 0 -/
def Perp (n : Nat) (S : Vec p → Prop) (w : Vec p) : Prop := (∀ i, n ≤ i → w i = 0) ∧ ∀ x, S x → dot n x w = 0
theorem perp_sub (n : Nat) (S : Vec p → Prop) : Sub (Perp n S) := by
  refine ⟨⟨fun _ _ => rfl, fun x _ => by rw [dot_comm, dot_zero]⟩, fun {x y} hx hy => ⟨fun i hi => ?_, fun z hz => ?_⟩, fun c {x} hx => ⟨fun i hi => ?_, fun z hz => ?_⟩⟩
  · show x i + y i = 0
    rw [hx.1 i hi, hy.1 i hi]
    grind
  · rw [dot_comm, dot_add, dot_comm n x z, dot_comm n y z, hx.2 z hz, hy.2 z hz]
    grind
  · show c * x i = 0
    rw [hx.1 i hi]
    grind
  · rw [dot_comm, dot_mul, dot_comm n x z, hx.2 z hz]
    grind
theorem PF.cross_perp {n : Nat} {bs : List (Nat × Vec p)} (h : PF n bs) {j : Nat} (hj : j < n) : Perp n (Spn (bs.map (·.2))) (crossV bs j) :=
  ⟨cross_wid bs n j h.lt hj, fun x hx => by rw [dot_cross n bs x j h.lt hj, (left_zero h x).mpr hx]; rfl⟩
theorem frees_nodup (n : Nat) (bs : List (Nat × Vec p)) : (frees n bs).Nodup := (List.nodup_range).filter _
/-- the worlds by the free places make them all -/
theorem PF.perp_spn {n : Nat} {bs : List (Nat × Vec p)} (h : PF n bs) (w : Vec p) : Spn ((frees n bs).map (crossV bs)) w ↔ Perp n (Spn (bs.map (·.2))) w := by
  constructor
  · intro hw
    refine spn_le (perp_sub n _) (fun v hv => ?_) hw
    obtain ⟨j, mj, rfl⟩ := List.mem_map.mp hv
    exact h.cross_perp (mem_frees.mp mj).1
  · intro hw
    have ht : Perp n (Spn (bs.map (·.2))) (tellV bs w (frees n bs)) := spn_le (perp_sub n _) (fun v hv => by
      obtain ⟨j, mj, rfl⟩ := List.mem_map.mp hv
      exact h.cross_perp (mem_frees.mp mj).1) (tell_spn bs w (frees n bs))
    have hd : Perp n (Spn (bs.map (·.2))) (fun i => w i - 1 * tellV bs w (frees n bs) i) := (perp_sub n _).less 1 hw ht
    have z1 : ∀ i, i < n → (∀ b ∈ bs, b.1 ≠ i) → w i - 1 * tellV bs w (frees n bs) i = 0 := fun i hi hb => by
      rw [tell_free bs w hb _ (frees_nodup n bs), if_pos (mem_frees.mpr ⟨hi, hb⟩)]
      grind
    have z2 : ∀ c ∈ bs, w c.1 - 1 * tellV bs w (frees n bs) c.1 = 0 := fun c hc => by
      have h0 := hd.2 c.2 (spn_mem (List.mem_map_of_mem hc))
      rw [dot_single (h.lt c hc) fun i hi ne => ?_] at h0
      · rw [h.one c hc] at h0
        grind
      · by_cases hp : ∃ b ∈ bs, b.1 = i
        · obtain ⟨b, mb, rfl⟩ := hp
          rw [h.off c hc b mb (Ne.symm ne)]
          grind
        · rw [z1 i hi fun b mb e => hp ⟨b, mb, e⟩]
          grind
    have e : w = tellV bs w (frees n bs) := by
      funext i
      rcases Nat.lt_or_ge i n with hi | hi
      · by_cases hp : ∃ b ∈ bs, b.1 = i
        · obtain ⟨b, mb, rfl⟩ := hp
          have := z2 b mb
          grind
        · have := z1 i hi fun b mb e => hp ⟨b, mb, e⟩
          grind
      · rw [hw.1 i hi, ht.1 i hi]
    rw [e]
    exact tell_spn bs w _
/-- rows each with a place of its own, at which those ahead have 0: none is made by those ahead -/
theorem Good.own_places {n : Nat} (g : Good inv n) (bs : List (Nat × Vec p)) (hw : ∀ j, j < n → ∀ i, n ≤ i → crossV bs j i = 0) : ∀ (m : Nat) (js : List Nat), js.length = m → js.Nodup → (∀ j ∈ js, j < n ∧ ∀ b ∈ bs, b.1 ≠ j) → dim inv n (js.map (crossV bs)) = js.length
  | 0, js, hl, _, _ => by
    have e : js = [] := List.eq_nil_of_length_eq_zero hl
    subst e
    exact dim_nil n
  | m + 1, js, hl, nd, hf => by
    obtain ⟨js', j, rfl⟩ : ∃ js' j, js = js' ++ [j] := by
      rcases List.eq_nil_or_concat js with e | ⟨l, b, e⟩
      · rw [e] at hl
        cases hl
      · exact ⟨l, b, by rw [e, List.concat_eq_append]⟩
    have nd' : js'.Nodup := (List.nodup_append.mp nd).1
    have nj : j ∉ js' := fun hm => (List.nodup_append.mp nd).2.2 j hm j (by simp) rfl
    have hf' : ∀ k ∈ js', k < n ∧ ∀ b ∈ bs, b.1 ≠ k := fun k hk => hf k (List.mem_append_left _ hk)
    have hj := hf j (by simp)
    have ih := own_places g bs hw m js' (by simpa using hl) nd' hf'
    have wd : Wid n (js'.map (crossV bs)) := fun x hx => by
      obtain ⟨k, mk, rfl⟩ := List.mem_map.mp hx
      exact hw k (hf' k mk).1
    rw [List.map_append, List.map_cons, List.map_nil, g.out wd (hw j hj.1) fun hs => ?_, ih]
    · simp
    · have hz : Sub (fun x : Vec p => x j = 0) := ⟨rfl, fun {x y} hx hy => by show x j + y j = 0; rw [hx, hy]; grind, fun c {x} hx => by show c * x j = 0; rw [hx]; grind⟩
      have h0 : crossV bs j j = 0 := spn_le hz (fun v hv => by
        obtain ⟨k, mk, rfl⟩ := List.mem_map.mp hv
        rw [cross_free bs k j hj.2, if_neg (fun e => nj (by rw [e]; exact mk))]) hs
      rw [cross_free bs j j hj.2, if_pos rfl] at h0
      exact g.one h0
theorem Good.perp_dim {n : Nat} (g : Good inv n) {bs : List (Nat × Vec p)} (h : PF n bs) : dim inv n ((frees n bs).map (crossV bs)) + bs.length = n := by
  rw [g.own_places bs (fun j hj => cross_wid bs n j h.lt hj) _ _ rfl (frees_nodup n bs) fun j hj => mem_frees.mp hj]
  exact frees_len h
theorem Good.pf_dim {n : Nat} (g : Good inv n) {bs : List (Nat × Vec p)} (h : PF n bs) : dim inv n (bs.map (·.2)) = bs.length := by
  have hw : Wid n (bs.map (·.2)) := fun x hx => by
    obtain ⟨b, mb, rfl⟩ := List.mem_map.mp hx
    exact h.wid b mb
  have e := h.uniq g.one (plainV_pf inv g.inv hw) fun x => (plainV_spn inv g.inv hw x).symm
  unfold dim
  rw [← e]
/-- across of across is the room again -/
theorem Good.perp_perp {n : Nat} (g : Good inv n) {bs cs : List (Nat × Vec p)} (hb : PF n bs) (hc : PF n cs) (h : ∀ w, Spn (cs.map (·.2)) w ↔ Perp n (Spn (bs.map (·.2))) w) (x : Vec p) : Perp n (Spn (cs.map (·.2))) x ↔ Spn (bs.map (·.2)) x := by
  have hbw : ∀ y, Spn (bs.map (·.2)) y → ∀ i, n ≤ i → y i = 0 := fun y hy i hi => by
    have hz : Sub (fun x : Vec p => x i = 0) := ⟨rfl, fun {x y} hx hy => by show x i + y i = 0; rw [hx, hy]; grind, fun c {x} hx => by show c * x i = 0; rw [hx]; grind⟩
    refine spn_le hz (fun v hv => ?_) hy
    obtain ⟨b, mb, rfl⟩ := List.mem_map.mp hv
    exact hb.wid b mb i hi
  have sub : ∀ y, Spn (bs.map (·.2)) y → Perp n (Spn (cs.map (·.2))) y := fun y hy => ⟨hbw y hy, fun w hw => by rw [dot_comm]; exact ((h w).mp hw).2 y hy⟩
  refine ⟨fun hx => ?_, sub x⟩
  -- sizes: n - (n - s)
  have wc : Wid n ((frees n cs).map (crossV cs)) := fun y hy => by
    obtain ⟨k, mk, rfl⟩ := List.mem_map.mp hy
    exact cross_wid cs n k hc.lt (mem_frees.mp mk).1
  have wb : Wid n ((frees n bs).map (crossV bs)) := fun y hy => by
    obtain ⟨k, mk, rfl⟩ := List.mem_map.mp hy
    exact cross_wid bs n k hb.lt (mem_frees.mp mk).1
  have d1 := g.perp_dim hb
  have d2 := g.perp_dim hc
  have wcs : Wid n (cs.map (·.2)) := fun x hx => by
    obtain ⟨b, mb, rfl⟩ := List.mem_map.mp hx
    exact hc.wid b mb
  have d3 : dim inv n ((frees n bs).map (crossV bs)) = cs.length := by
    rw [g.same wb wcs fun w => (hb.perp_spn w).trans (h w).symm, g.pf_dim hc]
  have hP := plainV_pf inv g.inv wc
  have sP := plainV_spn inv g.inv wc
  have := hb.same_of_len hP g.one (fun y hy => (sP y).mpr ((hc.perp_spn y).mpr (sub y hy))) (by
    show dim inv n ((frees n cs).map (crossV cs)) ≤ bs.length
    omega) ((sP x).mpr ((hc.perp_spn x).mpr hx))
  exact this
/-- across of both rooms joined is what their across share -/
theorem perp_app {n : Nat} {us ws : List (Vec p)} (w : Vec p) : Perp n (Spn (us ++ ws)) w ↔ Perp n (Spn us) w ∧ Perp n (Spn ws) w := by
  constructor
  · intro h
    exact ⟨⟨h.1, fun x hx => h.2 x (spn_left hx)⟩, ⟨h.1, fun x hx => h.2 x (spn_right hx)⟩⟩
  · rintro ⟨h1, h2⟩
    refine ⟨h1.1, fun x hx => ?_⟩
    obtain ⟨s, t, hs, ht, rfl⟩ := spn_app.mp hx
    rw [dot_add, h1.2 s hs, h2.2 t ht]
    grind
end
end Lin

/-! Which of some rows are needed: those that the ones ahead of them don't make. -/
namespace OC
open Lin
theorem snoc_ind {α : Type} {P : List α → Prop} (h0 : P []) (h1 : ∀ l a, P l → P (l ++ [a])) (l : List α) : P l := by
  have h : ∀ l : List α, P l.reverse := by
    intro l
    induction l with
    | nil => exact h0
    | cons a l ih =>
      rw [List.reverse_cons]
      exact h1 _ _ ih
  have := h l.reverse
  rwa [List.reverse_reverse] at this
def grows (p : Int) (n : Nat) (rs : List (List Int)) (k : Nat) : Bool := decide ((plainR p n (rs.take k)).length < (plainR p n (rs.take (k + 1))).length)
def needR (p : Int) (n : Nat) (rs : List (List Int)) : List Nat := (List.range rs.length).filter (grows p n rs)
def someR (p : Int) (n : Nat) (rs : List (List Int)) : List (List Int) := (needR p n rs).map fun k => rs.getD k []
theorem grows_old {p : Int} {n : Nat} {rs : List (List Int)} {r : List Int} {k : Nat} (h : k < rs.length) : grows p n (rs ++ [r]) k = grows p n rs k := by
  unfold grows
  rw [List.take_append_of_le_length (by omega), List.take_append_of_le_length (by omega)]
theorem grows_new {p : Int} {n : Nat} {rs : List (List Int)} {r : List Int} : grows p n (rs ++ [r]) rs.length = decide ((plainR p n rs).length < (plainR p n (rs ++ [r])).length) := by
  unfold grows
  rw [List.take_append_of_le_length (Nat.le_refl _), List.take_length, List.take_of_length_le (by simp)]
theorem needR_lt {p : Int} {n : Nat} {rs : List (List Int)} {k : Nat} (h : k ∈ needR p n rs) : k < rs.length := List.mem_range.mp (List.mem_filter.mp h).1
theorem needR_snoc (p : Int) (n : Nat) (rs : List (List Int)) (r : List Int) : needR p n (rs ++ [r]) = needR p n rs ++ (if (plainR p n rs).length < (plainR p n (rs ++ [r])).length then [rs.length] else []) := by
  unfold needR
  rw [show (rs ++ [r]).length = rs.length + 1 from by simp, List.range_succ, List.filter_append]
  congr 1
  · apply List.filter_congr
    intro k hk
    exact grows_old (List.mem_range.mp hk)
  · by_cases h : (plainR p n rs).length < (plainR p n (rs ++ [r])).length
    · rw [if_pos h, List.filter_cons_of_pos (by rw [grows_new]; exact decide_eq_true h)]
      rfl
    · rw [if_neg h, List.filter_cons_of_neg (by rw [grows_new, decide_eq_false h]; decide)]
      rfl
theorem someR_snoc (p : Int) (n : Nat) (rs : List (List Int)) (r : List Int) : someR p n (rs ++ [r]) = someR p n rs ++ (if (plainR p n rs).length < (plainR p n (rs ++ [r])).length then [r] else []) := by
  unfold someR
  rw [needR_snoc, List.map_append]
  congr 1
  · apply List.map_congr_left
    intro k hk
    have := needR_lt hk
    rw [List.getD_eq_getElem?_getD, List.getD_eq_getElem?_getD, List.getElem?_append_left this]
  · by_cases h : (plainR p n rs).length < (plainR p n (rs ++ [r])).length
    · rw [if_pos h, if_pos h]
      simp
    · rw [if_neg h, if_neg h]
      rfl
section
variable {q : Nat} [NeZero q]
theorem rowsOk_app {p : Int} {n : Nat} {rs ts : List (List Int)} (h1 : RowsOk p n rs) (h2 : RowsOk p n ts) : RowsOk p n (rs ++ ts) := fun x hx => by
  rcases List.mem_append.mp hx with h' | h'
  · exact h1 x h'
  · exact h2 x h'
theorem rowsOk_nil {p : Int} {n : Nat} : RowsOk p n [] := fun r hr => (nomatch hr)
theorem rowsOk_left {p : Int} {n : Nat} {rs ts : List (List Int)} (h : RowsOk p n (rs ++ ts)) : RowsOk p n rs := fun x hx => h x (List.mem_append_left _ hx)
theorem rowsOk_right {p : Int} {n : Nat} {rs ts : List (List Int)} (h : RowsOk p n (rs ++ ts)) : RowsOk p n ts := fun x hx => h x (List.mem_append_right _ hx)
theorem plainR_more (hF : Fld (q : Int)) {n : Nat} {rows : List (List Int)} {r : List Int} (h : RowsOk q n rows) (hr : RowsOk q n [r]) (hn : ¬ Mk q rows (toV r)) : (plainR q n (rows ++ [r])).length = (plainR q n rows).length + 1 := by
  have h2 : (2 : Int) ≤ q := hF.1
  have hr' := hr r List.mem_cons_self
  rw [plainR_len h, plainR_len (rowsOk_app h hr), List.map_append, List.map_cons, List.map_nil]
  exact plainV_more invF (one_ne (by omega)) (invF_ok hF) (rows_wid h) (fun i hi => toV_wid hr'.1 i hi) hn
theorem plainR_grows (hF : Fld (q : Int)) {n : Nat} {rows : List (List Int)} {r : List Int} (h : RowsOk q n rows) (hr : RowsOk q n [r]) : (plainR q n rows).length < (plainR q n (rows ++ [r])).length ↔ ¬ Mk q rows (toV r) := by
  constructor
  · intro hl hm
    have := (plainR_has hF h hr).mpr hm
    omega
  · intro hm
    have := plainR_more hF h hr hm
    omega
theorem mk_app_of {rows : List (List Int)} {r : List Int} (h : Mk q rows (toV r)) (x : Vec q) : Mk q (rows ++ [r]) x ↔ Mk q rows x := by
  unfold Mk
  rw [List.map_append]
  constructor
  · intro hx
    exact spn_append (spn_sub _) (fun _ h => h) (fun y hy => spn_sub_of (fun v hv => by
      have : v = toV r := by simpa using hv
      rw [this]
      exact h) hy) x hx
  · exact spn_left
theorem mk_app_congr {rows ts : List (List Int)} {r : List Int} (h : ∀ x, Mk q rows x ↔ Mk q ts x) (x : Vec q) : Mk q (rows ++ [r]) x ↔ Mk q (ts ++ [r]) x := by
  unfold Mk at *
  rw [List.map_append, List.map_append]
  constructor
  · intro hx
    exact spn_append (spn_sub _) (fun y hy => spn_left ((h y).mp hy)) (fun y hy => spn_right hy) x hx
  · intro hx
    exact spn_append (spn_sub _) (fun y hy => spn_left ((h y).mpr hy)) (fun y hy => spn_right hy) x hx
theorem plainR_congr (hF : Fld (q : Int)) {n : Nat} {one other : List (List Int)} (h1 : RowsOk q n one) (h2 : RowsOk q n other) (h : ∀ x, Mk q one x ↔ Mk q other x) : plainR q n one = plainR q n other :=
  (plainR_pf hF h1).plain hF h2 fun x => (plainR_mk hF h1 x).trans (h x)
theorem someR_mem {p : Int} {n : Nat} {rs : List (List Int)} {r : List Int} (h : r ∈ someR p n rs) : r ∈ rs := by
  obtain ⟨k, hk, rfl⟩ := List.mem_map.mp h
  have := needR_lt hk
  rw [List.getD_eq_getElem?_getD, List.getElem?_eq_getElem this]
  exact List.getElem_mem this
theorem someR_ok {p : Int} {n : Nat} {rs : List (List Int)} (h : RowsOk p n rs) : RowsOk p n (someR p n rs) := fun r hr => h r (someR_mem hr)
theorem someR_all (hF : Fld (q : Int)) {n : Nat} (rs : List (List Int)) : RowsOk q n rs → (∀ x, Mk q (someR q n rs) x ↔ Mk q rs x) ∧ (someR q n rs).length = (plainR q n rs).length ∧ needR q n (someR q n rs) = List.range (someR q n rs).length := by
  refine snoc_ind (P := fun rs => RowsOk q n rs → (∀ x, Mk q (someR q n rs) x ↔ Mk q rs x) ∧ (someR q n rs).length = (plainR q n rs).length ∧ needR q n (someR q n rs) = List.range (someR q n rs).length) (fun _ => ?_) (fun rs r ih hok => ?_) rs
  · refine ⟨fun _ => Iff.rfl, ?_, rfl⟩
    have h := (plainR_pf hF (n := n) (rows := []) rowsOk_nil)
    have : plainR q n [] = [] := (IsPF.uniq hF h ⟨rowsOk_nil, [], by
      constructor <;> intros <;> (try contradiction) <;> (try exact List.Pairwise.nil), rfl⟩ fun x => plainR_mk hF rowsOk_nil x)
    rw [this]
    rfl
  · have ok1 := rowsOk_left hok
    have ok2 := rowsOk_right hok
    obtain ⟨i1, i2, i3⟩ := ih ok1
    have oks := someR_ok (n := n) ok1
    rw [someR_snoc]
    by_cases hm : Mk q rs (toV r)
    · have hg : ¬ (plainR q n rs).length < (plainR q n (rs ++ [r])).length := fun h => (plainR_grows hF ok1 ok2).mp h hm
      rw [if_neg hg, List.append_nil]
      refine ⟨fun x => (i1 x).trans (mk_app_of hm x).symm, ?_, i3⟩
      rw [i2, (plainR_has hF ok1 ok2).mpr hm]
    · have hg := (plainR_grows hF ok1 ok2).mpr hm
      rw [if_pos hg]
      refine ⟨fun x => mk_app_congr i1 x, ?_, ?_⟩
      · rw [List.length_append, i2, plainR_more hF ok1 ok2 hm]
        rfl
      · rw [needR_snoc, i3, if_pos ((plainR_grows hF oks ok2).mpr fun h => hm ((i1 _).mp h)), List.length_append]
        exact List.range_succ.symm
theorem needR_len (p : Int) (n : Nat) (rs : List (List Int)) : (needR p n rs).length = (someR p n rs).length := (List.length_map _).symm
end
end OC

/-! The program's own way to the plain form: a row more, taken off, made plain, sorted. Core Lean alone. -/
namespace Lin
set_option linter.all false
section
variable {p : Nat} [NeZero p]
def leftF (bs : List (Nat × Vec p)) (x : Vec p) : Vec p := bs.foldl (fun x b => lessV x b.2 b.1) x
theorem red_congr : ∀ (l : List (Nat × Vec p)) (x y : Vec p), (∀ c ∈ l, y c.1 = x c.1) → red l y = red l x
  | [], _, _, _ => rfl
  | b :: l, x, y, h => by
    show addV (mulV (y b.1) b.2) (red l y) = addV (mulV (x b.1) b.2) (red l x)
    rw [h b List.mem_cons_self, red_congr l x y fun c hc => h c (List.mem_cons_of_mem _ hc)]
theorem leftF_eq : ∀ (l : List (Nat × Vec p)) (x : Vec p), l.Pairwise (fun a c => a.2 c.1 = 0) → leftF l x = leftV l x
  | [], x, _ => by
    funext i
    show x i = x i - 0
    grind
  | b :: l, x, h => by
    obtain ⟨h1, h2⟩ := List.pairwise_cons.mp h
    show leftF l (lessV x b.2 b.1) = _
    rw [leftF_eq l _ h2]
    have e : red l (lessV x b.2 b.1) = red l x := red_congr l x _ fun c hc => by
      show x c.1 - x b.1 * b.2 c.1 = x c.1
      rw [h1 c hc]
      grind
    funext i
    show (x i - x b.1 * b.2 i) - red l (lessV x b.2 b.1) i = x i - (x b.1 * b.2 i + red l x i)
    rw [e]
    grind
theorem PF.leftF {n : Nat} {bs : List (Nat × Vec p)} (h : PF n bs) (x : Vec p) : leftF bs x = leftV bs x := by
  refine leftF_eq bs x ?_
  refine h.inc.imp_of_mem fun {a c} ha hc hlt => h.off a ha c hc (by omega)
theorem red_wid : ∀ (l : List (Nat × Vec p)) (x : Vec p) (i : Nat), (∀ b ∈ l, b.2 i = 0) → red l x i = 0
  | [], _, _, _ => rfl
  | b :: l, x, i, h => by
    show x b.1 * b.2 i + red l x i = 0
    rw [red_wid l x i fun c hc => h c (List.mem_cons_of_mem _ hc), h b List.mem_cons_self]
    grind
/-- the pairs behind one row more -/
def moreV (inv : Fin p → Fin p) (bs : List (Nat × Vec p)) (y : Vec p) (j : Nat) : List (Nat × Vec p) := (j, ownV inv y j) :: bs.map fun b => (b.1, lessV b.2 (ownV inv y j) j)
variable (inv : Fin p → Fin p)
theorem moreV_pf {n : Nat} {bs : List (Nat × Vec p)} (h : PF n bs) (hinv : ∀ a : Fin p, a ≠ 0 → inv a * a = 1) {x : Vec p} (hx : ∀ i, n ≤ i → x i = 0) {j : Nat} (hj : Lead (leftV bs x) j) {cs : List (Nat × Vec p)} (hp : cs.Perm (moreV inv bs (leftV bs x) j)) (hi : cs.Pairwise (fun a b => a.1 < b.1)) :
    PF n cs ∧ ∀ z, Spn (cs.map (·.2)) z ↔ Spn (bs.map (·.2) ++ [x]) z := by
  generalize hy : leftV bs x = y at hj hp
  have yb : ∀ b ∈ bs, y b.1 = 0 := fun b hb => by rw [← hy]; exact left_at h x hb
  have yw : ∀ i, n ≤ i → y i = 0 := fun i hi => by
    rw [← hy]
    show x i - red bs x i = 0
    rw [hx i hi, red_wid bs x i fun b hb => h.wid b hb i hi]
    grind
  have jn : j < n := by
    rcases Nat.lt_or_ge j n with h' | h'
    · exact h'
    · exact absurd (yw j h') hj.1
  have jb : ∀ b ∈ bs, b.1 ≠ j := fun b hb e => hj.1 (by rw [← e]; exact yb b hb)
  generalize hf : ownV inv y j = f
  have fd : ∀ i, f i = inv (y j) * y i := fun i => by rw [← hf]; rfl
  have fj : f j = 1 := by rw [fd]; exact hinv _ hj.1
  have f0 : ∀ i, y i = 0 → f i = 0 := fun i e => by rw [fd, e]; grind
  have mem : ∀ c, c ∈ cs ↔ c = (j, f) ∨ ∃ b ∈ bs, c = (b.1, lessV b.2 f j) := fun c => by
    rw [hp.mem_iff]
    unfold moreV
    rw [hf, List.mem_cons, List.mem_map]
    constructor
    · rintro (e | ⟨b, hb, e⟩)
      · exact .inl e
      · exact .inr ⟨b, hb, e.symm⟩
    · rintro (e | ⟨b, hb, e⟩)
      · exact .inl e
      · exact .inr ⟨b, hb, e.symm⟩
  constructor
  · refine ⟨hi, fun c hc => ?_, fun c hc => ?_, fun c hc i hl => ?_, fun c hc d hd hne => ?_, fun c hc i hl => ?_⟩
    · rcases (mem c).mp hc with rfl | ⟨b, hb, rfl⟩
      · exact jn
      · exact h.lt b hb
    · rcases (mem c).mp hc with rfl | ⟨b, hb, rfl⟩
      · exact fj
      · show b.2 b.1 - b.2 j * f b.1 = 1
        rw [f0 _ (yb b hb), h.one b hb]
        grind
    · rcases (mem c).mp hc with rfl | ⟨b, hb, rfl⟩
      · exact f0 i (hj.2 i hl)
      · have hl : i < b.1 := hl
        show b.2 i - b.2 j * f i = 0
        rw [h.low b hb i hl]
        rcases Nat.lt_or_ge i j with h' | h'
        · rw [f0 i (hj.2 i h')]
          grind
        · rw [h.low b hb j (by omega)]
          grind
    · rcases (mem c).mp hc with rfl | ⟨b, hb, rfl⟩
      · rcases (mem d).mp hd with rfl | ⟨b', hb', rfl⟩
        · exact absurd rfl hne
        · exact f0 _ (yb b' hb')
      · rcases (mem d).mp hd with rfl | ⟨b', hb', rfl⟩
        · show b.2 j - b.2 j * f j = 0
          rw [fj]
          grind
        · show b.2 b'.1 - b.2 j * f b'.1 = 0
          rw [f0 _ (yb b' hb'), h.off b hb b' hb' hne]
          grind
    · rcases (mem c).mp hc with rfl | ⟨b, hb, rfl⟩
      · exact f0 i (yw i hl)
      · show b.2 i - b.2 j * f i = 0
        rw [f0 i (yw i hl), h.wid b hb i hl]
        grind
  · have Sc := spn_sub (cs.map (·.2))
    have Sx := spn_sub (bs.map (·.2) ++ [x])
    have inb : ∀ b ∈ bs, Spn (bs.map (·.2) ++ [x]) b.2 := fun b hb => spn_mem (List.mem_append_left _ (List.mem_map_of_mem hb))
    have inx : Spn (bs.map (·.2) ++ [x]) x := spn_mem (List.mem_append_right _ List.mem_cons_self)
    have iny : Spn (bs.map (·.2) ++ [x]) y := by
      have hr : Spn (bs.map (·.2) ++ [x]) (red bs x) := spn_left (spn_red bs x)
      have := Sx.less 1 inx hr
      have e : y = fun i => x i - 1 * red bs x i := by
        rw [← hy]
        funext i
        show x i - red bs x i = x i - 1 * red bs x i
        grind
      rw [e]
      exact this
    have inf : Spn (bs.map (·.2) ++ [x]) f := by
      have := Sx.mul (inv (y j)) iny
      rw [← hf]
      exact this
    have cf : Spn (cs.map (·.2)) f := spn_mem (List.mem_map.mpr ⟨(j, f), (mem _).mpr (.inl rfl), rfl⟩)
    have cb : ∀ b ∈ bs, Spn (cs.map (·.2)) b.2 := fun b hb => by
      have h1 : Spn (cs.map (·.2)) (lessV b.2 f j) := spn_mem (List.mem_map.mpr ⟨(b.1, lessV b.2 f j), (mem _).mpr (.inr ⟨b, hb, rfl⟩), rfl⟩)
      have h2 := Sc.add h1 (Sc.mul (b.2 j) cf)
      have e : b.2 = addV (lessV b.2 f j) (mulV (b.2 j) f) := by
        funext i
        show b.2 i = (b.2 i - b.2 j * f i) + b.2 j * f i
        grind
      rw [e]
      exact h2
    have cx : Spn (cs.map (·.2)) x := by
      have h1 : Spn (cs.map (·.2)) (red bs x) := spn_le Sc (fun v hv => by
        obtain ⟨b, hb, rfl⟩ := List.mem_map.mp hv
        exact cb b hb) (spn_red bs x)
      have h2 := Sc.add h1 (Sc.mul (y j) cf)
      have e : x = addV (red bs x) (mulV (y j) f) := by
        funext i
        show x i = red bs x i + y j * f i
        have e1 : y i = x i - red bs x i := by rw [← hy]; rfl
        have e2 := hinv _ hj.1
        rw [fd]
        grind
      rw [e]
      exact h2
    intro z
    constructor
    · intro hz
      refine spn_le Sx (fun v hv => ?_) hz
      obtain ⟨c, hc, rfl⟩ := List.mem_map.mp hv
      rcases (mem c).mp hc with rfl | ⟨b, hb, rfl⟩
      · exact inf
      · exact Sx.less (b.2 j) (inb b hb) inf
    · intro hz
      refine spn_le Sc (fun v hv => ?_) hz
      rcases List.mem_append.mp hv with hv | hv
      · obtain ⟨b, hb, rfl⟩ := List.mem_map.mp hv
        exact cb b hb
      · have : v = x := by simpa using hv
        rw [this]
        exact cx
end
end Lin
namespace OC
set_option linter.all false
open Lin
/-! ### first places -/
def fpR (r : List Int) : Nat := r.findIdx fun x => decide (x ≠ 0)
theorem fpR_le (r : List Int) : fpR r ≤ r.length := List.findIdx_le_length
theorem fpR_of {r : List Int} {j : Nat} (h : r.getD j 0 ≠ 0) (hl : ∀ i, i < j → r.getD i 0 = 0) : fpR r = j := by
  have hj : j < r.length := by
    rcases Nat.lt_or_ge j r.length with h' | h'
    · exact h'
    · exact absurd (gd_ge h') h
  unfold fpR
  rw [List.findIdx_eq hj]
  refine ⟨decide_eq_true (by rw [gd_lt hj] at h; exact h), fun i hi => ?_⟩
  have := hl i hi
  rw [gd_lt (by omega)] at this
  rw [this]
  rfl
theorem fpR_at {r : List Int} (h : fpR r < r.length) : r.getD (fpR r) 0 ≠ 0 := by
  have e := List.findIdx_getElem (xs := r) (p := fun x => decide (x ≠ 0)) (w := h)
  rw [gd_lt h]
  exact of_decide_eq_true e
theorem fpR_low {r : List Int} {i : Nat} (h : i < fpR r) : r.getD i 0 = 0 := by
  have hl : i < r.length := Nat.lt_of_lt_of_le h (fpR_le r)
  have e := List.not_of_lt_findIdx h
  rw [gd_lt hl]
  apply Classical.byContradiction
  intro hne
  have e2 : decide (r[i] ≠ 0) = true := decide_eq_true hne
  rw [e2] at e
  cases e
theorem fpR_all {r : List Int} (h : fpR r = r.length) : ∀ x ∈ r, x = 0 := by
  intro x hx
  obtain ⟨i, hi, rfl⟩ := List.getElem_of_mem hx
  have := fpR_low (r := r) (i := i) (by omega)
  rwa [gd_lt hi] at this
def leftR (p : Int) (room : List (List Int)) (r : List Int) : List Int := room.foldl (fun r b => lessR p r b (fpR b)) r
/-! ### the order of tuples -/
def codeR (B : Int) : List Int → Int
  | [] => 0
  | d :: r => d * B ^ r.length + codeR B r
theorem codeR_bd {B : Int} (hB : 0 < B) : ∀ r : List Int, (∀ x ∈ r, 0 ≤ x ∧ x < B) → 0 ≤ codeR B r ∧ codeR B r < B ^ r.length
  | [], _ => by
    refine ⟨Int.le_refl _, ?_⟩
    show (0 : Int) < B ^ 0
    rw [Int.pow_zero]
    decide
  | d :: r, h => by
    obtain ⟨c0, c1⟩ := codeR_bd hB r fun x hx => h x (List.mem_cons_of_mem _ hx)
    obtain ⟨d0, d1⟩ := h d List.mem_cons_self
    show 0 ≤ d * B ^ r.length + codeR B r ∧ d * B ^ r.length + codeR B r < B ^ (r.length + 1)
    rw [Int.pow_succ]
    generalize B ^ r.length = P at c1 ⊢
    generalize codeR B r = c at c0 c1 ⊢
    have p1 : (d + 1) * P ≤ B * P := Int.mul_le_mul_of_nonneg_right (by omega) (by omega)
    have p2 : 0 * P ≤ d * P := Int.mul_le_mul_of_nonneg_right d0 (by omega)
    rw [Int.add_mul, Int.one_mul, Int.mul_comm B P] at p1
    rw [Int.zero_mul] at p2
    generalize d * P = X at p1 p2 ⊢
    generalize P * B = Y at p1 ⊢
    constructor <;> omega
theorem fpR_zero (r : List Int) : fpR (0 :: r) = fpR r + 1 := by
  unfold fpR
  rw [List.findIdx_cons]
  simp
theorem fpR_nz {d : Int} (h : d ≠ 0) (r : List Int) : fpR (d :: r) = 0 := by
  unfold fpR
  rw [List.findIdx_cons]
  simp [h]
theorem code_lead {B : Int} (hB : 0 < B) : ∀ (a b : List Int), a.length = b.length → (∀ x ∈ a, 0 ≤ x ∧ x < B) → (∀ x ∈ b, 0 ≤ x ∧ x < B) → fpR b < fpR a → codeR B a < codeR B b
  | [], [], _, _, _, h => absurd h (Nat.lt_irrefl _)
  | [], _ :: _, e, _, _, _ => by cases e
  | _ :: _, [], e, _, _, _ => by cases e
  | x :: a, y :: b, e, ha, hb, h => by
    have e' : a.length = b.length := Nat.succ.inj e
    have x0 : x = 0 := by
      apply Classical.byContradiction
      intro hx
      rw [fpR_nz hx] at h
      exact Nat.not_lt_zero _ h
    subst x0
    have ha' : ∀ x ∈ a, 0 ≤ x ∧ x < B := fun x hx => ha x (List.mem_cons_of_mem _ hx)
    have hb' : ∀ x ∈ b, 0 ≤ x ∧ x < B := fun x hx => hb x (List.mem_cons_of_mem _ hx)
    show 0 * B ^ a.length + codeR B a < y * B ^ b.length + codeR B b
    by_cases hy : y = 0
    · subst hy
      rw [fpR_zero, fpR_zero] at h
      have := code_lead hB a b e' ha' hb' (by omega)
      omega
    · have c1 := (codeR_bd hB a ha').2
      have c2 := (codeR_bd hB b hb').1
      have y1 := (hb y List.mem_cons_self).1
      rw [e'] at c1
      generalize B ^ b.length = P at c1 ⊢
      rw [Int.zero_mul]
      have p1 : 1 * P ≤ y * P := by
        have c0 := (codeR_bd hB a ha').1
        exact Int.mul_le_mul_of_nonneg_right (by omega) (by omega)
      rw [Int.one_mul] at p1
      generalize y * P = X at p1 ⊢
      omega
/-! ### rows -/
section
variable {q : Nat} [NeZero q]
theorem toV_ne {r : List Int} (h : ∀ x ∈ r, 0 ≤ x ∧ x < (q : Int)) (i : Nat) : toV (q := q) r i ≠ 0 ↔ r.getD i 0 ≠ 0 := cF_ne (getD_lt q_pos h i)
theorem toV_eq0 {r : List Int} (h : ∀ x ∈ r, 0 ≤ x ∧ x < (q : Int)) (i : Nat) : toV (q := q) r i = 0 ↔ r.getD i 0 = 0 := by
  have := toV_ne h i
  constructor
  · intro e
    apply Classical.byContradiction
    intro hn
    exact this.mpr hn e
  · intro e
    apply Classical.byContradiction
    intro hn
    exact this.mp hn e
theorem fpR_lead {r : List Int} {j : Nat} (h : ∀ x ∈ r, 0 ≤ x ∧ x < (q : Int)) (hl : Lead (toV (q := q) r) j) : fpR r = j := fpR_of ((toV_ne h j).mp hl.1) fun i hi => (toV_eq0 h i).mp (hl.2 i hi)
theorem lead_fpR {r : List Int} (h : ∀ x ∈ r, 0 ≤ x ∧ x < (q : Int)) (hl : fpR r < r.length) : Lead (toV (q := q) r) (fpR r) := ⟨(toV_ne h _).mpr (fpR_at hl), fun i hi => (toV_eq0 h i).mpr (fpR_low hi)⟩
theorem leftR_sim {n : Nat} : ∀ (room : List (List Int)) (bs : List (Nat × Vec q)) (r : List Int), RowsOk q n room → RowsOk q n [r] → bs.map (·.2) = room.map (toV (q := q)) → (∀ b ∈ bs, Lead b.2 b.1) → RowsOk q n [leftR q room r] ∧ toV (q := q) (leftR q room r) = leftF bs (toV r)
  | [], [], r, _, h, _, _ => ⟨h, rfl⟩
  | [], _ :: _, _, _, _, e, _ => by cases e
  | _ :: _, [], _, _, _, e, _ => by cases e
  | c :: room, b :: bs, r, h1, h2, e, hl => by
    rw [List.map_cons, List.map_cons] at e
    obtain ⟨e1, e2⟩ := List.cons.inj e
    have hc := h1 c List.mem_cons_self
    have hr := h2 r List.mem_cons_self
    have fj : fpR c = b.1 := fpR_lead (q := q) hc.2 (by rw [← e1]; exact hl b List.mem_cons_self)
    have ok : RowsOk q n [lessR q r c (fpR c)] := fun x hx => by
      have : x = lessR q r c (fpR c) := by simpa using hx
      rw [this]
      exact less_row q_pos hr.1 hc.1 _
    obtain ⟨a1, a2⟩ := leftR_sim room bs (lessR q r c (fpR c)) (fun x hx => h1 x (List.mem_cons_of_mem _ hx)) ok e2 fun x hx => hl x (List.mem_cons_of_mem _ hx)
    refine ⟨a1, ?_⟩
    show toV (q := q) (leftR q room (lessR q r c (fpR c))) = leftF bs (lessV (toV r) b.2 b.1)
    rw [a2, toV_less (by rw [hr.1, hc.1]), fj, e1]
theorem q2 (hF : Fld (q : Int)) : 2 ≤ q := by
  have : (2 : Int) ≤ q := hF.1
  omega
theorem IsPF.left (hF : Fld (q : Int)) {n : Nat} {room : List (List Int)} (h : IsPF q n room) {r : List Int} (hr : RowsOk q n [r]) : ∃ bs, PF n bs ∧ bs.map (·.2) = room.map (toV (q := q)) ∧ RowsOk q n [leftR q room r] ∧ toV (q := q) (leftR q room r) = leftV bs (toV r) := by
  obtain ⟨ok, bs, pf, e⟩ := h
  obtain ⟨a1, a2⟩ := leftR_sim room bs r ok hr e fun b hb => pf.leads (one_ne (q2 hF)) hb
  exact ⟨bs, pf, e, a1, by rw [a2, pf.leftF]⟩
theorem noughts_toV {r : List Int} (h : ∀ x ∈ r, 0 ≤ x ∧ x < (q : Int)) : toV (q := q) r = zeroV ↔ ∀ x ∈ r, x = 0 := by
  constructor
  · intro e x hx
    obtain ⟨i, hi, rfl⟩ := List.getElem_of_mem hx
    have := (toV_eq0 h i).mp (congrFun e i)
    rwa [gd_lt hi] at this
  · intro e
    funext i
    refine (toV_eq0 h i).mpr ?_
    by_cases hi : i < r.length
    · rw [gd_lt hi]
      exact e _ (List.getElem_mem hi)
    · exact gd_ge (by omega)
/-- noughts are left just where the room has the row -/
theorem IsPF.left_zero (hF : Fld (q : Int)) {n : Nat} {room : List (List Int)} (h : IsPF q n room) {r : List Int} (hr : RowsOk q n [r]) : (∀ x ∈ leftR q room r, x = 0) ↔ Mk q room (toV r) := by
  obtain ⟨bs, pf, e, ok, et⟩ := h.left hF hr
  rw [← noughts_toV (ok _ List.mem_cons_self).2, et, Lin.left_zero pf, e]
  rfl
theorem perm_pw {α : Type} {R : α → α → Prop} {l m : List α} (hs : ∀ a b, R a b → R b a) (hp : l.Perm m) (h : m.Pairwise R) : l.Pairwise R := (hp.pairwise_iff fun {a b} => hs a b).mpr h
/-- the plain form behind one row more, as the program makes it -/
theorem IsPF.widen (hF : Fld (q : Int)) {n : Nat} {room : List (List Int)} (h : IsPF q n room) {r : List Int} (hr : RowsOk q n [r]) (hne : fpR (leftR q room r) < n) {rs : List (List Int)}
    (hp : rs.Perm (ownR q (leftR q room r) (fpR (leftR q room r)) :: room.map fun b => lessR q b (ownR q (leftR q room r) (fpR (leftR q room r))) (fpR (leftR q room r)))) (hs : rs.Pairwise fun a b => codeR q b ≤ codeR q a) : rs = plainR q n (room ++ [r]) := by
  obtain ⟨bs, pf, e, ok, et⟩ := h.left hF hr
  have okl := ok _ List.mem_cons_self
  have hall : RowsOk q n (room ++ [r]) := rowsOk_app h.1 hr
  have ld : Lead (leftV bs (toV r)) (fpR (leftR q room r)) := by
    rw [← et]
    exact lead_fpR okl.2 (by rw [okl.1]; exact hne)
  generalize hj : fpR (leftR q room r) = j at hne hp ld
  have eo : toV (q := q) (ownR q (leftR q room r) j) = ownV invF (leftV bs (toV r)) j := by
    rw [toV_own okl.2, et]
  have oko := own_row (q_pos (q := q)) okl.1 j
  generalize ownR q (leftR q room r) j = f at hp eo oko
  have okL : RowsOk q n (f :: room.map fun b => lessR q b f j) := fun x hx => by
    rcases List.mem_cons.mp hx with rfl | hx
    · exact oko
    · obtain ⟨b, hb, rfl⟩ := List.mem_map.mp hx
      exact less_row q_pos (h.1 b hb).1 oko.1 j
  have okS : RowsOk q n rs := fun x hx => okL x (hp.mem_iff.mp hx)
  have one1 := one_ne (q := q) (q2 hF)
  -- pairs of the list
  have pairs : (f :: room.map fun b => lessR q b f j).map (fun r => (fpR r, toV (q := q) r)) = moreV invF bs (leftV bs (toV r)) j := by
    have leadM : ∀ c ∈ moreV invF bs (leftV bs (toV r)) j, Lead c.2 c.1 := by
      intro c hc
      have yb : ∀ b ∈ bs, leftV bs (toV r) b.1 = 0 := fun b hb => left_at pf _ hb
      have fd : ∀ i, ownV invF (leftV bs (toV r)) j i = invF (leftV bs (toV r) j) * leftV bs (toV r) i := fun i => rfl
      rcases List.mem_cons.mp hc with rfl | hc
      · refine ⟨?_, fun i hi => ?_⟩
        · show ownV invF (leftV bs (toV r)) j j ≠ 0
          rw [fd, invF_ok hF _ ld.1]
          exact one1
        · show ownV invF (leftV bs (toV r)) j i = 0
          rw [fd, ld.2 i hi]
          grind
      · obtain ⟨b, hb, rfl⟩ := List.mem_map.mp hc
        refine ⟨?_, fun i hi => ?_⟩
        · show b.2 b.1 - b.2 j * ownV invF (leftV bs (toV r)) j b.1 ≠ 0
          rw [fd, yb b hb, pf.one b hb]
          have : (1 : Fin q) - b.2 j * (invF (leftV bs (toV r) j) * 0) = 1 := by grind
          rw [this]
          exact one1
        · have hi : i < b.1 := hi
          show b.2 i - b.2 j * ownV invF (leftV bs (toV r)) j i = 0
          rw [fd, pf.low b hb i hi]
          rcases Nat.lt_or_ge i j with h' | h'
          · rw [ld.2 i h']
            grind
          · rw [pf.low b hb j (by omega)]
            grind
    have e2 : (f :: room.map fun b => lessR q b f j).map (toV (q := q)) = (moreV invF bs (leftV bs (toV r)) j).map (·.2) := by
      unfold moreV
      rw [List.map_cons, List.map_cons, eo, List.map_map, List.map_map]
      congr 1
      have e3 : bs.map ((fun b : Nat × Vec q => b.2) ∘ fun b => (b.1, lessV b.2 (ownV invF (leftV bs (toV r)) j) j)) = (bs.map (·.2)).map fun v => lessV v (ownV invF (leftV bs (toV r)) j) j := by
        rw [List.map_map]
        rfl
      rw [e3, e, List.map_map]
      apply List.map_congr_left
      intro x hx
      show toV (lessR q x f j) = lessV (toV x) (ownV invF (leftV bs (toV r)) j) j
      rw [toV_less (by rw [(h.1 x hx).1, oko.1]), eo]
    have key : ∀ (L : List (List Int)) (M : List (Nat × Vec q)), RowsOk q n L → (∀ c ∈ M, Lead c.2 c.1) → L.map (toV (q := q)) = M.map (·.2) → L.map (fun r => (fpR r, toV (q := q) r)) = M := by
      intro L
      induction L with
      | nil =>
        intro M _ _ e
        cases M with
        | nil => rfl
        | cons m M => cases e
      | cons x L ih =>
        intro M ok lm e
        cases M with
        | nil => cases e
        | cons m M =>
          rw [List.map_cons, List.map_cons] at e
          obtain ⟨a1, a2⟩ := List.cons.inj e
          rw [List.map_cons, ih M (fun y hy => ok y (List.mem_cons_of_mem _ hy)) (fun c hc => lm c (List.mem_cons_of_mem _ hc)) a2]
          congr 1
          have := lm m List.mem_cons_self
          rw [← a1] at this
          rw [fpR_lead (ok x List.mem_cons_self).2 this, a1]
    exact key _ _ okL leadM e2
  have pm : (rs.map fun r => (fpR r, toV (q := q) r)).Perm (moreV invF bs (leftV bs (toV r)) j) := by
    rw [← pairs]
    exact hp.map _
  have dist : (moreV invF bs (leftV bs (toV r)) j).Pairwise fun a b => a.1 ≠ b.1 := by
    unfold moreV
    rw [List.pairwise_cons]
    constructor
    · intro c hc
      obtain ⟨b, hb, rfl⟩ := List.mem_map.mp hc
      intro z
      have z : j = b.1 := z
      apply ld.1
      rw [z]
      exact left_at pf _ hb
    · rw [List.pairwise_map]
      exact pf.inc.imp fun {a b} hab => by
        show a.1 ≠ b.1
        omega
  have dist2 := perm_pw (fun a b hab => Ne.symm hab) pm dist
  rw [List.pairwise_map] at dist2
  have inc : (rs.map fun r => (fpR r, toV (q := q) r)).Pairwise fun a b => a.1 < b.1 := by
    rw [List.pairwise_map]
    refine List.Pairwise.imp_of_mem (fun {a b} ha hb hab => ?_) (dist2.and hs)
    obtain ⟨h1, h2⟩ := hab
    have h1 : fpR a ≠ fpR b := h1
    show fpR a < fpR b
    apply Classical.byContradiction
    intro hn
    have := code_lead (q_pos (q := q)) a b (by rw [(okS a ha).1, (okS b hb).1]) (okS a ha).2 (okS b hb).2 (by omega)
    omega
  obtain ⟨g1, g2⟩ := moreV_pf invF pf (invF_ok hF) (x := toV r) (fun i hi => toV_wid (hr r List.mem_cons_self).1 i hi) ld pm inc
  have em : (rs.map fun r => (fpR r, toV (q := q) r)).map (·.2) = rs.map (toV (q := q)) := by
    rw [List.map_map]
    rfl
  refine IsPF.plain hF ⟨okS, _, g1, em⟩ hall fun x => ?_
  have := g2 x
  rw [em, e] at this
  unfold Mk
  rw [List.map_append]
  exact this
/-- a made row makes nothing new -/
theorem IsPF.widen0 (hF : Fld (q : Int)) {n : Nat} {room : List (List Int)} (h : IsPF q n room) {r : List Int} (hr : RowsOk q n [r]) (hne : ∀ x ∈ leftR q room r, x = 0) : room = plainR q n (room ++ [r]) := by
  have hm := (h.left_zero hF hr).mp hne
  exact IsPF.plain hF h (rowsOk_app h.1 hr) fun x => (mk_app_of hm x).symm
theorem isPF_iff (hF : Fld (q : Int)) {n : Nat} {room : List (List Int)} : IsPF q n room ↔ RowsOk q n room ∧ plainR q n room = room :=
  ⟨fun h => ⟨h.1, (IsPF.plain hF h h.1 fun _ => Iff.rfl).symm⟩, fun h => by
    have := plainR_pf hF h.1
    rwa [h.2] at this⟩
end
/-- a plain form: rows that are their own plain form -/
def PFR (p : Int) (n : Nat) (room : List (List Int)) : Prop := RowsOk p n room ∧ plainR p n room = room
theorem to_q {p : Int} (hF : Fld p) : ∃ q : Nat, p = (q : Int) ∧ ∃ _ : NeZero q, Fld (q : Int) := by
  have h2 := hF.1
  obtain ⟨q, rfl⟩ := Int.eq_ofNat_of_zero_le (show 0 ≤ p by omega)
  exact ⟨q, rfl, ⟨by omega⟩, hF⟩
theorem PFR.of_plain {p : Int} (hF : Fld p) {n : Nat} {rows : List (List Int)} (h : RowsOk p n rows) : PFR p n (plainR p n rows) := by
  obtain ⟨q, rfl, _, hF⟩ := to_q hF
  exact (isPF_iff hF).mp (plainR_pf hF h)
theorem PFR.nil {p : Int} (hF : Fld p) (n : Nat) : PFR p n [] := by
  have := PFR.of_plain hF (n := n) (rowsOk_nil (p := p))
  have e : plainR p n [] = [] := by
    have h : ∀ k, (List.range k).foldl (stepR p) (([] : List (List Int)), ([] : List (List Int))) = ([], []) := by
      intro k
      induction k with
      | zero => rfl
      | succ k ih => rw [List.range_succ, List.foldl_append, ih]; rfl
    unfold plainR
    rw [h]
  exact ⟨rowsOk_nil, e⟩
theorem PFR.left_ok {p : Int} (hF : Fld p) {n : Nat} {room : List (List Int)} (h : PFR p n room) {r : List Int} (hr : RowsOk p n [r]) : RowsOk p n [leftR p room r] := by
  obtain ⟨q, rfl, _, hF⟩ := to_q hF
  obtain ⟨_, _, _, ok, _⟩ := ((isPF_iff hF).mpr h).left hF hr
  exact ok
theorem PFR.widen {p : Int} (hF : Fld p) {n : Nat} {room : List (List Int)} (h : PFR p n room) {r : List Int} (hr : RowsOk p n [r]) (hne : fpR (leftR p room r) < n) {rs : List (List Int)}
    (hp : rs.Perm (ownR p (leftR p room r) (fpR (leftR p room r)) :: room.map fun b => lessR p b (ownR p (leftR p room r) (fpR (leftR p room r))) (fpR (leftR p room r)))) (hs : rs.Pairwise fun a b => codeR p b ≤ codeR p a) : rs = plainR p n (room ++ [r]) := by
  obtain ⟨q, rfl, _, hF⟩ := to_q hF
  exact ((isPF_iff hF).mpr h).widen hF hr hne hp hs
theorem PFR.widen0 {p : Int} (hF : Fld p) {n : Nat} {room : List (List Int)} (h : PFR p n room) {r : List Int} (hr : RowsOk p n [r]) (hne : ∀ x ∈ leftR p room r, x = 0) : room = plainR p n (room ++ [r]) := by
  obtain ⟨q, rfl, _, hF⟩ := to_q hF
  exact ((isPF_iff hF).mpr h).widen0 hF hr hne
/-- noughts are left just where one row more makes nothing new -/
theorem PFR.left_has {p : Int} (hF : Fld p) {n : Nat} {room : List (List Int)} (h : PFR p n room) {r : List Int} (hr : RowsOk p n [r]) : (∀ x ∈ leftR p room r, x = 0) ↔ (plainR p n (room ++ [r])).length = (plainR p n room).length := by
  obtain ⟨q, rfl, _, hF⟩ := to_q hF
  rw [((isPF_iff hF).mpr h).left_zero hF hr]
  exact (plainR_has hF h.1 hr).symm
/-- the plain form of a plain form and more rows -/
theorem plainR_app {p : Int} (hF : Fld p) {n : Nat} {rows ts : List (List Int)} (h : RowsOk p n rows) (ht : RowsOk p n ts) : plainR p n (plainR p n rows ++ ts) = plainR p n (rows ++ ts) := by
  obtain ⟨q, rfl, _, hF⟩ := to_q hF
  refine plainR_congr hF (rowsOk_app (plainR_rows h) ht) (rowsOk_app h ht) fun x => ?_
  unfold Mk
  rw [List.map_append, List.map_append]
  constructor
  · intro hx
    refine spn_le (spn_sub _) (fun v hv => ?_) hx
    rcases List.mem_append.mp hv with hv | hv
    · exact spn_left ((plainR_mk hF h v).mp (spn_mem hv))
    · exact spn_right (spn_mem hv)
  · intro hx
    refine spn_le (spn_sub _) (fun v hv => ?_) hx
    rcases List.mem_append.mp hv with hv | hv
    · exact spn_left ((plainR_mk hF h v).mpr (spn_mem hv))
    · exact spn_right (spn_mem hv)
theorem plainR_lenle {p : Int} (hF : Fld p) {n : Nat} {rows : List (List Int)} (h : RowsOk p n rows) : (plainR p n rows).length ≤ n := by
  obtain ⟨q, rfl, _, hF⟩ := to_q hF
  obtain ⟨_, bs, pf, e⟩ := plainR_pf hF h
  have e1 := congrArg List.length e
  rw [List.length_map, List.length_map] at e1
  rw [← e1]
  have h1 : (bs.map (·.1)).Pairwise (· < ·) := List.pairwise_map.mpr pf.inc
  have h2 := (sorted_len h1 (List.pairwise_lt_range (n := n)) fun x hx => by
    obtain ⟨b, hb, rfl⟩ := List.mem_map.mp hx
    exact List.mem_range.mpr (pf.lt b hb)).1
  rw [List.length_map, List.length_range] at h2
  exact h2
end OC

set_option Elab.async false
set_option linter.all false
set_option maxRecDepth 100000
/-! what laws share of rows as ints and as data -/
namespace OC
open PySem PySem.Spec PyProof.Rows L2
theorem units65 {k : Nat} {A : Around} (r : Room k A) : A.units + 65 < cLine := by have := r.un; omega
def plusR (p : Int) (x y : List Int) (m : Int) : List Int := List.zipWith (fun a b => (a + m * b) % p) x y
theorem plus_len {p : Int} {x y : List Int} {m : Int} (h : x.length = y.length) : (plusR p x y m).length = x.length := by
  unfold plusR
  rw [List.length_zipWith]
  omega
theorem plus_ok {p : Int} {x y : List Int} {m : Int} (hp : 0 < p) : RowOk p (plusR p x y m) := by
  intro z hz
  unfold plusR at hz
  rw [List.mem_iff_getElem?] at hz
  obtain ⟨i, hi⟩ := hz
  rw [List.getElem?_zipWith] at hi
  split at hi
  · cases Option.some.inj hi
    exact ⟨Int.emod_nonneg _ (by omega), Int.emod_lt_of_pos _ hp⟩
  · cases hi
def addR (p : Int) (x y : List Int) : List Int := List.zipWith (fun a b => (a + b) % p) x y
def timesR (p a : Int) (x : List Int) : List Int := x.map fun r => a * r % p
def worthR (p : Int) (x y : List Int) : Int := (List.zipWith (fun a b => a * b) x y).sum % p
def madeR (p : Int) (z : List Int) (l : List (List Int × Int)) : List Int := l.foldl (fun acc rf => plusR p acc rf.1 rf.2) z
theorem plus1 (p : Int) : ∀ x y : List Int, plusR p x y 1 = addR p x y
  | [], _ => rfl
  | _ :: _, [] => rfl
  | a :: x, b :: y => by
    have ih := plus1 p x y
    unfold plusR addR at ih ⊢
    rw [List.zipWith_cons_cons, List.zipWith_cons_cons, ih, Int.one_mul]
theorem plus_times (p m : Int) : ∀ x : List Int, plusR p x x (m - 1) = timesR p m x
  | [] => rfl
  | a :: x => by
    have ih := plus_times p m x
    unfold plusR timesR at ih ⊢
    rw [List.zipWith_cons_cons, ih, List.map_cons, show a + (m - 1) * a = m * a by grind]
theorem add_times (p f : Int) : ∀ x y : List Int, addR p x (timesR p f y) = plusR p x y f
  | [], _ => rfl
  | _ :: _, [] => rfl
  | a :: x, b :: y => by
    have ih := add_times p f x y
    unfold plusR addR timesR at ih ⊢
    rw [List.map_cons, List.zipWith_cons_cons, List.zipWith_cons_cons, ih, Int.add_emod_emod]
theorem worth_add (p : Int) : ∀ x y z : List Int, x.length = y.length → worthR p (addR p x y) z = (worthR p x z + worthR p y z) % p
  | [], [], _, _ => by
    unfold worthR addR
    simp
  | [], _ :: _, _, e => by cases e
  | _ :: _, [], _, e => by cases e
  | a :: x, b :: y, [], _ => by
    unfold worthR addR
    simp
  | a :: x, b :: y, c :: z, e => by
    have ih := worth_add p x y z (Nat.succ.inj e)
    unfold worthR addR at ih ⊢
    rw [List.zipWith_cons_cons, List.zipWith_cons_cons, List.zipWith_cons_cons, List.zipWith_cons_cons, List.sum_cons, List.sum_cons, List.sum_cons]
    rw [Int.emod_add_emod, Int.add_emod_emod] at ih
    rw [Int.emod_add_emod, Int.add_emod_emod]
    rw [Int.add_emod, ih, show (a + b) % p * c % p = (a + b) * c % p by rw [Int.mul_emod, Int.emod_emod, ← Int.mul_emod], ← Int.add_emod]
    congr 1
    grind
theorem worth_times (p m : Int) : ∀ x z : List Int, worthR p (timesR p m x) z = m * worthR p x z % p
  | [], _ => by
    unfold worthR timesR
    simp
  | _ :: _, [] => by
    unfold worthR timesR
    simp
  | a :: x, c :: z => by
    have ih := worth_times p m x z
    unfold worthR timesR at ih ⊢
    rw [List.map_cons, List.zipWith_cons_cons, List.zipWith_cons_cons, List.sum_cons, List.sum_cons]
    rw [Int.add_emod, ih, Int.mul_emod, Int.emod_emod, ← Int.mul_emod, Int.add_emod_emod, Int.emod_add_emod]
    rw [show m * ((a * c + (List.zipWith (fun a b => a * b) x z).sum) % p) % p = m * (a * c + (List.zipWith (fun a b => a * b) x z).sum) % p by rw [Int.mul_emod, Int.emod_emod, ← Int.mul_emod]]
    rw [Int.add_emod, show m * ((List.zipWith (fun a b => a * b) x z).sum % p) % p = m * (List.zipWith (fun a b => a * b) x z).sum % p by rw [Int.mul_emod, Int.emod_emod, ← Int.mul_emod], ← Int.add_emod]
    congr 1
    grind
theorem add_len {p : Int} {x y : List Int} (h : x.length = y.length) : (addR p x y).length = x.length := by
  unfold addR
  rw [List.length_zipWith]
  omega
theorem times_len {p m : Int} {x : List Int} : (timesR p m x).length = x.length := by
  unfold timesR
  rw [List.length_map]
theorem add_ok {p : Int} {x y : List Int} (hp : 0 < p) : RowOk p (addR p x y) := by
  rw [← plus1]
  exact plus_ok hp
theorem times_ok {p m : Int} {x : List Int} (hp : 0 < p) : RowOk p (timesR p m x) := by
  rw [← plus_times]
  exact plus_ok hp
theorem worth_bd {p : Int} {x y : List Int} (hp : 0 < p) : 0 ≤ worthR p x y ∧ worthR p x y < p := ⟨Int.emod_nonneg _ (by omega), Int.emod_lt_of_pos _ hp⟩
theorem made_len (p : Int) (n : Nat) : ∀ (l : List (List Int × Int)) (z : List Int), z.length = n → (∀ x ∈ l, x.1.length = n) → (madeR p z l).length = n
  | [], z, hz, _ => hz
  | x :: l, z, hz, h => by
    refine made_len p n l _ ?_ fun y hy => h y (List.mem_cons_of_mem _ hy)
    rw [plus_len (by rw [hz, h x List.mem_cons_self])]
    exact hz
theorem made_ok {p : Int} (hp : 0 < p) : ∀ (l : List (List Int × Int)) (z : List Int), RowOk p z → RowOk p (madeR p z l)
  | [], z, hz => hz
  | x :: l, z, hz => made_ok hp l _ (plus_ok hp)
theorem made_take {p : Int} {z : List Int} {l : List (List Int × Int)} {i : Nat} {x : List Int × Int} (h : l[i]? = some x) : madeR p z (l.take (i + 1)) = plusR p (madeR p z (l.take i)) x.1 x.2 := by
  unfold madeR
  rw [List.take_add_one, h, List.foldl_append]
  rfl
theorem nought_ok {p : Int} (hp : 0 < p) (n : Nat) : RowOk p (List.replicate n 0) := fun x hx => by
  have := List.eq_of_mem_replicate hx
  omega
theorem worth_take (p : Int) (x y : List Int) (i : Nat) {u v : Int} (h1 : x[i]? = some u) (h2 : y[i]? = some v) : (((List.zipWith (fun a b => a * b) x y).take i).sum % p + u * v) % p = ((List.zipWith (fun a b => a * b) x y).take (i + 1)).sum % p := by
  rw [sum_take (z := u * v) (by rw [List.getElem?_zipWith, h1, h2]), Int.emod_add_emod]
def PR8 : List Int := [5, 7, 11, 101, 5, 13, 97, 23]
theorem pr8_bd : ∀ p ∈ PR8, 5 ≤ p ∧ p ≤ 101 := by decide +kernel
def lstD (r : List Int) : PyData := .list (r.map PyData.int)
def intsOf : PyData → List Int
  | .list ds => ds.map fun d => match d with | .int i => i | _ => 0
  | .tuple ds => ds.map fun d => match d with | .int i => i | _ => 0
  | _ => []
theorem ints_lst (r : List Int) : intsOf (lstD r) = r := by
  show (r.map PyData.int).map _ = r
  rw [List.map_map]
  exact List.map_id r
theorem ints_row (r : List Int) : intsOf (rowD r) = r := by
  show (r.map PyData.int).map _ = r
  rw [List.map_map]
  exact List.map_id r
def nzAt (k : Nat) (d : PyData) : Bool := decide ((intsOf d).getD k 0 ≠ 0)
theorem rep_lst_ints {K : PySem.W.Frag} {H : Hp} {bad : Addr → Prop} : ∀ {xs : List V} {r : List Int}, RepAll K H bad xs (r.map PyData.int) → xs = r.map V.int
  | _, [], h => by cases h; rfl
  | _, n :: r, h => by
    cases h with
    | cons h1 h2 =>
      cases h1
      rw [rep_lst_ints h2]
      rfl
theorem rep_lst {K : PySem.W.Frag} {H : Hp} {bad : Addr → Prop} {v : V} {r : List Int} (h : Rep K H bad v (lstD r)) : ∃ l, v = .ref l ∧ H l = some (.lst (r.map V.int)) := by
  unfold lstD at h
  cases h with
  | lst hs hb ha => exact ⟨_, rfl, (rep_lst_ints ha) ▸ hs⟩
theorem rep_row {K : PySem.W.Frag} {H : Hp} {bad : Addr → Prop} {v : V} {r : List Int} (h : Rep K H bad v (rowD r)) : ∃ l, v = .ref l ∧ SqT K H l (r.map V.int) := by
  unfold rowD at h
  cases h with
  | tup hs ha => exact ⟨_, rfl, (rep_lst_ints ha) ▸ hs⟩
theorem rep_rows {K : PySem.W.Frag} {H : Hp} {bad : Addr → Prop} : ∀ {ws : List V} {rs : List (List Int)}, DpAll K H ws (rs.map rowD) → RepAll K H bad ws (rs.map rowD)
  | _, [], h => by cases h; exact .nil
  | _, r :: rs, h => by
    cases h with
    | cons h1 h2 =>
      obtain ⟨a, rfl, ha⟩ := dp_row h1
      exact .cons (row_rep ha) (rep_rows h2)
theorem rows_rep {K : PySem.W.Frag} {H : Hp} {bad : Addr → Prop} : ∀ {ws : List V} {rs : List (List Int)}, RepAll K H bad ws (rs.map rowD) → DpAll K H ws (rs.map rowD)
  | _, [], h => by cases h; exact .nil
  | _, r :: rs, h => by
    cases h with
    | cons h1 h2 =>
      obtain ⟨a, rfl, ha⟩ := rep_row h1
      exact .cons (row_dp ha) (rows_rep h2)
theorem foldl_succ {α : Type} (f : α → Nat → α) (a : α) (k : Nat) : (List.range (k + 1)).foldl f a = f ((List.range k).foldl f a) k := by
  rw [List.range_succ, List.foldl_append]
  rfl
theorem dpAll_take {K : PySem.W.Frag} {H : Hp} : ∀ {xs : List V} {ds : List PyData} (k : Nat), DpAll K H xs ds → DpAll K H (xs.take k) (ds.take k)
  | _, _, 0, _ => by rw [List.take_zero, List.take_zero]; exact .nil
  | _, _, _ + 1, .nil => .nil
  | _, _, k + 1, .cons h1 h2 => .cons h1 (dpAll_take k h2)
def numsV (ks : List Nat) : List V := ks.map fun (k : Nat) => V.int (k : Int)
theorem plainR_nil (p : Int) (n : Nat) : plainR p n [] = [] := by
  have h : ∀ k, (List.range k).foldl (stepR p) (([] : List (List Int)), ([] : List (List Int))) = ([], []) := by
    intro k
    induction k with
    | zero => rfl
    | succ k ih => rw [foldl_succ, ih]; rfl
  unfold plainR
  rw [h]
theorem need_take (p : Int) (n : Nat) (rs : List (List Int)) (k : Nat) (h : k < rs.length) : needR p n (rs.take (k + 1)) = needR p n (rs.take k) ++ (if (plainR p n (rs.take k)).length < (plainR p n (rs.take (k + 1))).length then [k] else []) := by
  have e : rs.take (k + 1) = rs.take k ++ [rs[k]] := by rw [List.take_succ, List.getElem?_eq_getElem h]; rfl
  rw [e, needR_snoc, List.length_take, Nat.min_eq_left (by omega)]
def hasR (p : Int) (n : Nat) (rs : List (List Int)) (r : List Int) : Bool := decide ((plainR p n (rs ++ [r])).length = (plainR p n rs).length)
def fldB (p : Nat) : Bool := decide (2 ≤ p) && (List.range p).all fun a => a == 0 || (List.range p).any fun b => a * b % p == 1
theorem fld_of {p : Nat} (h : fldB p = true) : Fld (p : Int) := by
  unfold fldB at h
  rw [Bool.and_eq_true] at h
  obtain ⟨h2, h⟩ := h
  have h2 := of_decide_eq_true h2
  refine ⟨by omega, fun a a1 ap => ?_⟩
  have ha := List.all_eq_true.mp h a.toNat (List.mem_range.mpr (by omega))
  rw [Bool.or_eq_true] at ha
  rcases ha with ha | ha
  · have := eq_of_beq ha
    omega
  · obtain ⟨b, hb, e⟩ := List.any_eq_true.mp ha
    have e := eq_of_beq e
    have hb := List.mem_range.mp hb
    refine ⟨(b : Int), ?_, by omega, ?_⟩
    · cases b with
      | zero => rw [Nat.mul_zero, Nat.zero_mod] at e; cases e
      | succ b => omega
    · have e2 : ((a.toNat * b % p : Nat) : Int) = 1 := by rw [e]; rfl
      rw [Int.natCast_emod, Int.natCast_mul, Int.toNat_of_nonneg (by omega)] at e2
      exact e2
theorem pr8_fld : ∀ p ∈ PR8, Fld p := by
  intro p hp
  have h : ∀ p ∈ PR8, fldB p.toNat = true := by decide +kernel
  have b := pr8_bd p hp
  have := fld_of (h p hp)
  rwa [Int.toNat_of_nonneg (by omega)] at this
def nI (ks : List Nat) : List Int := ks.map fun (k : Nat) => (k : Int)
theorem numsV_eq (ks : List Nat) : numsV ks = (nI ks).map V.int := by
  unfold numsV nI
  rw [List.map_map]
  rfl
theorem rgV_eq (n : Nat) : rgV 0 (n : Int) = numsV (List.range n) := by
  unfold rgV numsV
  rw [show ((n : Int) - 0).toNat = n from by omega]
  apply List.map_congr_left
  intro k _
  rw [Int.zero_add]
theorem lv_row (r : List Int) (h : r.length ≤ 1000) (L : PyData → Prop) : Lv (Lv L) (rowD r) := by
  refine .inr ⟨_, rfl, by rw [List.length_map]; exact h, fun x hx => ?_⟩
  obtain ⟨i, _, rfl⟩ := List.mem_map.mp hx
  exact .inl True.intro
theorem rowsOk_of {p : Int} {n : Nat} {rs : List (List Int)} (h : ∀ r ∈ rs, (r.length : Int) = (n : Int) ∧ RowOk p r) : RowsOk p n rs := fun r hr => ⟨by have := (h r hr).1; omega, (h r hr).2⟩
theorem pu_rows {p : Int} {n : Nat} {rs : List (List Int)} (hp : p ≤ 1000) (hn : n ≤ 30) (hl : rs.length ≤ 30) (h : RowsOk p n rs) : Pu 2 (.tuple (rs.map rowD)) := by
  refine ⟨_, rfl, by rw [List.length_map]; exact hl, fun x hx => ?_⟩
  obtain ⟨r, hr, rfl⟩ := List.mem_map.mp hx
  refine ⟨_, rfl, by rw [List.length_map, (h r hr).1]; exact hn, fun y hy => ?_⟩
  obtain ⟨i, hi, rfl⟩ := List.mem_map.mp hy
  have := (h r hr).2 i hi
  exact ⟨i, rfl, by omega, by omega⟩
theorem rows_fit {p : Int} {n : Nat} {rs : List (List Int)} (hp : p ≤ 1000) (hn : n ≤ 30) (hl : rs.length ≤ 30) (h : RowsOk p n rs) : Fit (.tuple (rs.map rowD)) := (pu_fit 2 _ (pu_rows hp hn hl h)).fit (by decide) (by decide)
theorem some_facts {p : Int} (hF : Fld p) {n : Nat} {rs : List (List Int)} (ok : RowsOk p n rs) : plainR p n (someR p n rs) = plainR p n rs ∧ (needR p n rs).length = (plainR p n rs).length ∧ needR p n (someR p n rs) = List.range (someR p n rs).length := by
  have h2 := hF.1
  obtain ⟨q, rfl⟩ := Int.eq_ofNat_of_zero_le (show 0 ≤ p by omega)
  haveI : NeZero q := ⟨by omega⟩
  obtain ⟨h1, h3, h4⟩ := someR_all hF rs ok
  exact ⟨plainR_congr hF (someR_ok ok) ok h1, by rw [needR_len]; exact h3, h4⟩
theorem eqvAll_self : ∀ ds : List PyData, (∀ d ∈ ds, PyData.eqv d d = true) → PyData.eqvAll ds ds = true
  | [], _ => by simp [PyData.eqvAll]
  | d :: ds, h => by
    rw [PyData.eqvAll, h d List.mem_cons_self, eqvAll_self ds fun x hx => h x (List.mem_cons_of_mem _ hx)]
    rfl
theorem eqv_row (r : List Int) : PyData.eqv (rowD r) (rowD r) = true := by
  unfold rowD
  rw [PyData.eqv]
  refine eqvAll_self _ fun d hd => ?_
  obtain ⟨i, _, rfl⟩ := List.mem_map.mp hd
  simp [PyData.eqv]
theorem eqv_rows (rs : List (List Int)) : PyData.eqv (.tuple (rs.map rowD)) (.tuple (rs.map rowD)) = true := by
  rw [PyData.eqv]
  refine eqvAll_self _ fun d hd => ?_
  obtain ⟨r, _, rfl⟩ := List.mem_map.mp hd
  exact eqv_row r
def pick (rs : List (List Int)) (d : PyData) : PyData := match d with | .int i => rowD (rs.getD i.toNat []) | _ => .none
theorem rep_nums {H : Hp} {bad : Addr → Prop} {K : PySem.W.Frag} (ks : List Nat) : RepAll K H bad (numsV ks) ((nI ks).map PyData.int) := by
  rw [numsV_eq]
  exact repAll_ints _
end OC

set_option Elab.async false
set_option linter.all false
set_option maxRecDepth 100000
/-! what the promises of the program's own defs rest on -/
namespace OC
open PySem PySem.Spec PyProof.Rows L2 Lin
theorem less_eq {p : Int} : ∀ (c : Int) (x y : List Int), addR p x (timesR p (p - c) y) = List.zipWith (fun r m => (r - c * m) % p) x y
  | _, [], _ => rfl
  | _, _ :: _, [] => rfl
  | c, a :: x, b :: y => by
    have ih := less_eq (p := p) c x y
    unfold addR timesR at ih ⊢
    rw [List.map_cons, List.zipWith_cons_cons, List.zipWith_cons_cons, ih, Int.add_emod_emod]
    congr 1
    rw [show a + (p - c) * b = (a - c * b) + p * b by grind, Int.add_mul_emod_self_left]
theorem less_zero {p : Int} : ∀ (x y : List Int), x.length = y.length → RowOk p x → List.zipWith (fun r m => (r - 0 * m) % p) x y = x
  | [], _, _, _ => rfl
  | _ :: _, [], e, _ => by cases e
  | a :: x, b :: y, e, h => by
    rw [List.zipWith_cons_cons, less_zero x y (Nat.succ.inj e) fun z hz => h z (List.mem_cons_of_mem _ hz)]
    have := h a List.mem_cons_self
    rw [Int.zero_mul, Int.sub_zero, Int.emod_eq_of_lt this.1 this.2]
theorem ctr_uniq {p a b : Int} (hF : Fld p) (h0 : 1 ≤ a) (h1 : a < p) (b0 : 1 ≤ b) (b1 : b < p) (e : a * b % p = 1) : b = ctr p a := by
  obtain ⟨c0, c1, c2⟩ := ctr_ok hF h0 h1
  generalize ctr p a = c at c0 c1 c2
  have h2 := hF.1
  have e1 : b * (a * c) % p = b := by
    rw [Int.mul_emod, c2, Int.mul_one, Int.emod_emod]
    exact Int.emod_eq_of_lt (by omega) b1
  have e2 : b * (a * c) % p = c := by
    rw [show b * (a * c) = (a * b) * c by grind, Int.mul_emod, e, Int.one_mul, Int.emod_emod]
    exact Int.emod_eq_of_lt c0 c1
  omega
/-- rows in a tuple -/
def RowsAt (K : PySem.W.Frag) (H : Hp) (a : Addr) (rs : List (List Int)) : Prop := ∃ ws, SqT K H a ws ∧ DpAll K H ws (rs.map rowD)
theorem RowsAt.same {K : PySem.W.Frag} {H H' : Hp} {a : Addr} {rs : List (List Int)} (s : Same H H') (h : RowsAt K H a rs) : RowsAt K H' a rs := by
  obtain ⟨ws, h1, h2⟩ := h
  exact ⟨ws, Same.tup s h1, dpAll_same s _ _ h2⟩
theorem rows_len {K : PySem.W.Frag} {H : Hp} {ws : List V} {rs : List (List Int)} (h : DpAll K H ws (rs.map rowD)) : ws.length = rs.length := by
  have := dpAll_len h
  rwa [List.length_map] at this
theorem PFR.fp_lt {p : Int} (hF : Fld p) {n : Nat} {room : List (List Int)} (h : PFR p n room) : ∀ b ∈ room, fpR b < n := by
  obtain ⟨q, rfl, _, hF⟩ := to_q hF
  obtain ⟨ok, bs, pf, e⟩ := (isPF_iff hF).mpr h
  intro b hb
  have : toV (q := q) b ∈ bs.map (·.2) := by rw [e]; exact List.mem_map_of_mem hb
  obtain ⟨c, hc, ec⟩ := List.mem_map.mp this
  have := pf.leads (one_ne (q2 hF)) hc
  rw [ec] at this
  rw [fpR_lead (ok b hb).2 this]
  exact pf.lt c hc
/-- a room of all rows gets no wider -/
theorem plain_full {p : Int} (hF : Fld p) {n : Nat} {rows ts : List (List Int)} (h : RowsOk p n rows) (ht : RowsOk p n ts) (hl : (plainR p n rows).length = n) : plainR p n (rows ++ ts) = plainR p n rows := by
  have hle := plainR_lenle hF (rowsOk_app h ht)
  obtain ⟨q, rfl, _, hF⟩ := to_q hF
  obtain ⟨_, bs, pb, eb⟩ := plainR_pf hF h
  obtain ⟨_, cs, pc, ec⟩ := plainR_pf hF (rowsOk_app h ht)
  have lb := congrArg List.length eb
  have lc := congrArg List.length ec
  rw [List.length_map, List.length_map] at lb lc
  have sub : ∀ x, Spn (bs.map (·.2)) x → Spn (cs.map (·.2)) x := fun x hx => by
    rw [eb] at hx
    rw [ec]
    refine (plainR_mk hF (rowsOk_app h ht) x).mpr ?_
    unfold Mk
    rw [List.map_append]
    exact spn_left ((plainR_mk hF h x).mp hx)
  refine ((plainR_pf hF (rowsOk_app h ht)).uniq hF (plainR_pf hF h) fun x => ?_)
  unfold Mk
  rw [← eb, ← ec]
  exact ⟨fun hx => pb.same_of_len pc (one_ne (q2 hF)) sub (by omega) hx, sub x⟩
theorem dpAll_perm {K : PySem.W.Frag} {H : Hp} {ys xs : List V} (hp : ys.Perm xs) : ∀ {rs : List (List Int)}, DpAll K H xs (rs.map rowD) → ∃ rs' : List (List Int), rs'.Perm rs ∧ DpAll K H ys (rs'.map rowD) := by
  induction hp with
  | nil => exact fun {rs} h => ⟨rs, List.Perm.refl _, h⟩
  | cons x _ ih =>
    intro rs h
    cases rs with
    | nil => cases h
    | cons r rs =>
      cases h with
      | cons h1 h2 =>
        obtain ⟨rs', p, d⟩ := ih h2
        exact ⟨r :: rs', p.cons r, .cons h1 d⟩
  | swap x y l =>
    intro rs h
    match rs, h with
    | [], h => cases h
    | [r], h =>
      cases h with
      | cons h1 h2 => cases h2
    | r1 :: r2 :: rs, h =>
      cases h with
      | cons h1 h2 =>
        cases h2 with
        | cons h2 h3 => exact ⟨r2 :: r1 :: rs, List.Perm.swap _ _ _, .cons h2 (.cons h1 h3)⟩
  | trans _ _ ih1 ih2 =>
    intro rs h
    obtain ⟨r1, p1, d1⟩ := ih2 h
    obtain ⟨r2, p2, d2⟩ := ih1 d1
    exact ⟨r2, p2.trans p1, d2⟩
theorem code_eq (B : Int) : ∀ r : List Int, TS.code B r = codeR B r
  | [] => rfl
  | d :: r => by
    show d * B ^ r.length + TS.code B r = d * B ^ r.length + codeR B r
    rw [code_eq B r]
theorem dpAll_pw {K : PySem.W.Frag} {H : Hp} {B : Int} : ∀ {ys : List V} {rs : List (List Int)}, DpAll K H ys (rs.map rowD) → ys.Pairwise (fun x y => ∀ n m, TupI K H x n → TupI K H y m → TS.code B m ≤ TS.code B n) → rs.Pairwise fun a b => codeR B b ≤ codeR B a
  | _, [], _, _ => List.Pairwise.nil
  | _, r :: rs, h, hp => by
    cases h with
    | @cons y ys _ _ h1 h2 =>
      obtain ⟨p1, p2⟩ := List.pairwise_cons.mp hp
      refine List.pairwise_cons.mpr ⟨fun b hb => ?_, dpAll_pw h2 p2⟩
      obtain ⟨i, hi, rfl⟩ := List.getElem_of_mem hb
      have hi' : i < ys.length := by rw [rows_len h2]; exact hi
      obtain ⟨c, r2, ec, gr, _, hc⟩ := dpAll_row h2 (List.getElem?_eq_getElem hi')
      rw [List.getElem?_eq_getElem hi] at gr
      have er : rs[i] = r2 := Option.some.inj gr
      obtain ⟨a, ea, ha⟩ := dp_row h1
      have := p1 ys[i] (List.getElem_mem hi') r rs[i] ⟨a, ea, ha⟩ ⟨c, ec, by rw [er]; exact hc⟩
      rwa [code_eq, code_eq] at this
theorem hasR_iff {p : Int} (hF : Fld p) {n : Nat} {room : List (List Int)} (h : PFR p n room) {r : List Int} (hr : RowsOk p n [r]) : (leftR p room r).all (fun x => decide (x = 0)) = hasR p n room r := by
  have e := PFR.left_has hF h hr
  unfold hasR
  by_cases c : (plainR p n (room ++ [r])).length = (plainR p n room).length
  · rw [decide_eq_true c, List.all_eq_true]
    exact fun x hx => decide_eq_true (e.mpr c x hx)
  · rw [decide_eq_false c, Bool.eq_false_iff]
    intro z
    exact c (e.mp fun x hx => of_decide_eq_true (List.all_eq_true.mp z x hx))
theorem rowOk_getD {p : Int} {r : List Int} {n : Nat} (h : r.length = n ∧ ∀ x ∈ r, 0 ≤ x ∧ x < p) {j : Nat} (hj : j < n) : 0 ≤ r.getD j 0 ∧ r.getD j 0 < p := by
  rw [gd_lt (by omega)]
  exact h.2 _ (List.getElem_mem _)
theorem at_row {r : List Int} {j : Nat} (h : j < r.length) : atI (r.map V.int) (j : Int) = some (.int (r.getD j 0)) := at_of (j := j) rfl (by rw [List.getElem?_map, List.getElem?_eq_getElem h, gd_lt h]; rfl)
theorem rowsOk_one {p : Int} {n : Nat} {r : List Int} (h : r.length = n ∧ ∀ x ∈ r, 0 ≤ x ∧ x < p) : RowsOk p n [r] := fun x hx => by
  have : x = r := by simpa using hx
  rw [this]
  exact h
theorem leftR_take {p : Int} {room : List (List Int)} {r : List Int} {i : Nat} {b : List Int} (h : room[i]? = some b) : leftR p (room.take (i + 1)) r = lessR p (leftR p (room.take i) r) b (fpR b) := by
  unfold leftR
  rw [List.take_add_one, h, List.foldl_append]
  rfl
theorem leftR_ok {p : Int} (hp : 0 < p) {n : Nat} : ∀ (room : List (List Int)) (r : List Int), RowsOk p n room → RowsOk p n [r] → RowsOk p n [leftR p room r]
  | [], _, _, h => h
  | b :: room, r, h1, h2 => leftR_ok hp room _ (fun x hx => h1 x (List.mem_cons_of_mem _ hx)) (rowsOk_one (less_row hp (h2 r List.mem_cons_self).1 (h1 b List.mem_cons_self).1 _))
end OC

set_option Elab.async false
set_option linter.all false
set_option maxRecDepth 100000
/-! rooms as data; comprehensions of plain values -/
namespace OC
open PySem PySem.Spec PyProof.Rows L2 Lin
abbrev Bad (d c : Addr) : Addr → Prop := fun a => a = d ∨ a = c
theorem Deck.fresh {H : Hp} {d c p : Addr} {t : Int} (D : Deck H d c t) (n : H p = none) : ¬ Bad d c p := by
  obtain ⟨hd, ⟨cells, h1, h2⟩, _, t0⟩ := D
  rintro (z | z)
  · subst z; rw [hd] at n; cases n
  · subst z; rw [h1] at n; cases n
def L0 : PyData → Prop := fun _ => False
theorem Stays.kept2 {bad : Addr → Prop} {d c : Addr} {t : Int} {H H' : Hp} (D : Deck H d c t) (k : Kept d c H H') (bd : bad d) (bc : bad c) : Stays bad H H' := by
  have s := Stays.kept D k
  refine ⟨s.t, s.d, fun a xs h n => k a _ h (fun z => n (by rw [z]; exact bd)) (fun z => n (by rw [z]; exact bc))⟩
theorem Deck.mut {H : Hp} {d c B : Addr} {t : Int} {o : HO} (D : Deck H d c t) (b : ¬ Bad d c B) : Deck (upd H B o) d c t := by
  obtain ⟨hd, ⟨cells, h1, h2⟩, n, t0⟩ := D
  exact ⟨by rw [upd_ne (fun z => b (.inl z.symm))]; exact hd, ⟨cells, by rw [upd_ne (fun z => b (.inr z.symm))]; exact h1, h2⟩, n, t0⟩
theorem Kept.mut {H H' : Hp} {d c B : Addr} {o : HO} (k : Kept d c H H') (n : H B = none) : Kept d c H (upd H' B o) := fun b x h n1 n2 => by
  rw [upd_ne (ne_of_none h n)]
  exact k b x h n1 n2
/-- what is new is none of the deck's lists -/
theorem rep_new {K : PySem.W.Frag} {H H' : Hp} {d c : Addr} {t : Int} {v : V} {e : PyData} (D : Deck H d c t) (r : Rep K H' (fun a => H a ≠ none) v e) : Rep K H' (Bad d c) v e := by
  refine rep_weak (fun b hb => ?_) _ _ r
  rcases hb with z | z
  · subst z; rw [D.hd]; exact fun h => nomatch h
  · obtain ⟨cells, h1, _⟩ := D.hc
    subst z; rw [h1]; exact fun h => nomatch h
theorem repAll_nb {K : PySem.W.Frag} {H : Hp} {bad : Addr → Prop} {vs : List V} {es : List PyData} (h : RepAll K H bad vs es) : RepAll K H NB vs es := repAll_weak (fun _ h => h.elim) _ _ h
theorem Kept.rows {K : PySem.W.Frag} {H H' : Hp} {d c : Addr} {t : Int} {a : Addr} {rs : List (List Int)} (D : Deck H d c t) (k : Kept d c H H') (h : RowsAt K H a rs) : RowsAt K H' a rs := by
  obtain ⟨ws, h1, h2⟩ := h
  exact ⟨ws, Kept.tup D k h1, dpAll_tk (Tk.kept D k) _ _ (noL_rows rs) h2⟩
theorem RowsAt.rep {K : PySem.W.Frag} {H : Hp} {bad : Addr → Prop} {a : Addr} {rs : List (List Int)} (h : RowsAt K H a rs) : Rep K H bad (.ref a) (.tuple (rs.map rowD)) := by
  obtain ⟨ws, h1, h2⟩ := h
  exact .tup h1 (rep_rows h2)
def lenOk2 : PyData → Prop
  | .tuple ds => ds.length ≤ 100 ∧ ∀ x ∈ ds, lenOk x
  | _ => True
/-- a thing whose length and repr are within bounds -/
structure TOk (e : PyData) : Prop where
  l : lenOk2 e
  f : Fit e
/-- [t for x in xs], t no object -/
theorem lc_valR {K : PySem.W.Frag} {J : It} {G : Hp → Prop} {vs : List V} {ds : List PyData} {σ : L2.St} {H : Hp} {Qd : Addr → Hp → Prop} {i : Nat} {sl : List Nat} {te : TE} (f : PyData → V)
    (w : Walk J vs.length G (YAt vs)) (hG : ∀ H', Same H H' → G H') (hD : RepAll K H NB vs ds) (hz : vs.length ≤ 1000) (hw : ∀ x : Option V, wipe ((wipe σ sl).set i x) sl = wipe σ sl)
    (hte : ∀ (v : V) (d : PyData) (H' : Hp) (Q' : VK), d ∈ ds → Rep K H' NB v d → Same H H' → (∀ H'', Same H' H'' → Q' (f d) H'') → te ((wipe σ sl).set i (some v)) H' Q')
    (hd : ∀ D H', Same H H' → H D = none → H' D = some (.lst (ds.map f)) → Qd D H') : LcGoal J (gName i) tYes te sl σ H Qd := by
  intro D nD
  have lv := repAll_len hD
  refine lc_it w (fun k H' => Same H H' ∧ H' D = some (.lst ((ds.take k).map f))) ⟨same_mut (Same.refl H) nD, upd_same⟩ (fun k H' _ hP => hG H' hP.1) (fun k x H1 H2 hk hP hY => ?_) (fun H' hP => ?_)
  · obtain ⟨rfl, e1⟩ := hY
    obtain ⟨sm, eD⟩ := hP
    obtain ⟨d, g, md, rx⟩ := repAll_get hD e1
    refine ⟨hw _, hte x d _ _ md (rep_stays (Stays.of sm) _ _ rx) sm fun H'' s2 => ?_⟩
    refine ⟨_, s2 _ _ eD, ?_, same_mut (sm.trans s2) nD, ?_⟩
    · rw [List.length_map, List.length_take]
      exact small1000 (by omega)
    · rw [upd_same, List.take_add_one, g, List.map_append]
      rfl
  · obtain ⟨sm, eD⟩ := hP
    rw [List.take_of_length_le (by omega)] at eD
    exact hd D H' sm nD eD
/-! ### rooms as data -/
def isRoomD (p : Int) (n : Nat) : PyData → Bool
  | .tuple ds => ds.all (isRowD p n) && decide (plainR p n (ds.map intsOf) = ds.map intsOf)
  | _ => false
theorem rests_ints {p : Int} : ∀ {es : List PyData}, es.all (restD p) = true → es = (es.map fun d => match d with | .int i => i | _ => 0).map PyData.int ∧ ∀ x ∈ es.map (fun d => match d with | .int i => i | _ => 0), 0 ≤ x ∧ x < p
  | [], _ => ⟨rfl, fun x hx => nomatch hx⟩
  | e :: es, h => by
    rw [List.all_cons, Bool.and_eq_true] at h
    obtain ⟨h1, h2⟩ := rests_ints h.2
    cases e with
    | int i =>
      have hi : (decide (0 ≤ i) && decide (i < p)) = true := h.1
      rw [Bool.and_eq_true] at hi
      refine ⟨?_, fun x hx => ?_⟩
      · rw [List.map_cons, List.map_cons, ← h1]
      · rw [List.map_cons] at hx
        rcases List.mem_cons.mp hx with rfl | hx
        · exact ⟨of_decide_eq_true hi.1, of_decide_eq_true hi.2⟩
        · exact h2 x hx
    | _ => exact (Bool.false_ne_true h.1).elim
theorem row_of {p : Int} {n : Nat} {d : PyData} (h : isRowD p n d = true) : d = rowD (intsOf d) ∧ (intsOf d).length = n ∧ ∀ x ∈ intsOf d, 0 ≤ x ∧ x < p := by
  cases d with
  | tuple es =>
    have h : (decide ((es.length : Int) = n) && es.all (restD p)) = true := h
    rw [Bool.and_eq_true] at h
    obtain ⟨h1, h2⟩ := rests_ints h.2
    have hl := of_decide_eq_true h.1
    refine ⟨?_, ?_, h2⟩
    · show PyData.tuple es = PyData.tuple _
      congr 1
    · show (es.map _).length = n
      rw [List.length_map]
      omega
  | _ => exact (Bool.false_ne_true h).elim
theorem rows_of {p : Int} {n : Nat} {ds : List PyData} (h : ds.all (isRowD p n) = true) : ds = (ds.map intsOf).map rowD ∧ RowsOk p n (ds.map intsOf) := by
  have h := List.all_eq_true.mp h
  constructor
  · rw [List.map_map]
    refine (List.map_id ds).symm.trans (List.map_congr_left fun d hd => ?_)
    exact (row_of (h d hd)).1
  · intro r hr
    obtain ⟨d, hd, rfl⟩ := List.mem_map.mp hr
    exact (row_of (h d hd)).2
theorem isRow_row {p : Int} {n : Nat} {r : List Int} (h : r.length = n ∧ ∀ x ∈ r, 0 ≤ x ∧ x < p) : isRowD p n (rowD r) = true := by
  show (decide (((r.map PyData.int).length : Int) = n) && (r.map PyData.int).all (restD p)) = true
  rw [List.length_map, h.1, decide_eq_true rfl, Bool.true_and, List.all_map, List.all_eq_true]
  intro x hx
  show (decide (0 ≤ x) && decide (x < p)) = true
  have := h.2 x hx
  rw [decide_eq_true this.1, decide_eq_true this.2]
  rfl
theorem eqvAll_ints : ∀ a b : List Int, PyData.eqvAll (a.map PyData.int) (b.map PyData.int) = decide (a = b)
  | [], [] => by simp [PyData.eqvAll]
  | [], _ :: _ => by simp [PyData.eqvAll]
  | _ :: _, [] => by simp [PyData.eqvAll]
  | x :: a, y :: b => by
    rw [List.map_cons, List.map_cons, PyData.eqvAll, eqvAll_ints a b]
    by_cases h : x = y
    · subst h
      simp [PyData.eqv]
    · simp [PyData.eqv, h]
theorem eqv_row_dec (a b : List Int) : PyData.eqv (rowD a) (rowD b) = decide (a = b) := by
  unfold rowD
  rw [PyData.eqv, eqvAll_ints]
theorem eqvAll_rows : ∀ a b : List (List Int), PyData.eqvAll (a.map rowD) (b.map rowD) = decide (a = b)
  | [], [] => by simp [PyData.eqvAll]
  | [], _ :: _ => by simp [PyData.eqvAll]
  | _ :: _, [] => by simp [PyData.eqvAll]
  | x :: a, y :: b => by
    rw [List.map_cons, List.map_cons, PyData.eqvAll, eqvAll_rows a b, eqv_row_dec]
    by_cases h : x = y
    · subst h
      simp
    · simp [h]
theorem eqv_rows_dec (a b : List (List Int)) : PyData.eqv (.tuple (a.map rowD)) (.tuple (b.map rowD)) = decide (a = b) := by
  rw [PyData.eqv, eqvAll_rows]
theorem all_id {α : Type} (q : α → Bool) (l : List α) : ((l.map q).all id) = l.all q := by
  rw [List.all_map]
  rfl
theorem rep_dpRows {K : PySem.W.Frag} {H : Hp} {bad : Addr → Prop} {xs : List V} {ds : List PyData} {p : Int} {n : Nat} (h : RepAll K H bad xs ds) (hd : ds.all (isRowD p n) = true) : DpAll K H xs ((ds.map intsOf).map rowD) := by
  refine rows_rep (bad := bad) ?_
  rw [← (rows_of hd).1]
  exact h
theorem lenOk_odd {p : Int} {e : PyData} (m : e ∈ oddD p) : lenOk e ∧ lenOk2 e := by
  unfold oddD at m
  simp only [List.mem_cons, List.not_mem_nil, or_false] at m
  rcases m with rfl | rfl | rfl | rfl | rfl | rfl | rfl | rfl | rfl | rfl | rfl | rfl | rfl | rfl | rfl | rfl | rfl | rfl
  all_goals refine ⟨?_, ?_⟩
  all_goals first
    | exact True.intro
    | exact (by decide : (0 : Nat) ≤ 1000)
    | exact (by decide : (1 : Nat) ≤ 1000)
    | exact ⟨by decide, List.forall_mem_singleton.mpr True.intro⟩
    | exact ⟨by decide, List.forall_mem_singleton.mpr (by decide : (1 : Nat) ≤ 1000)⟩
    | exact ⟨by decide, fun x hx => absurd hx List.not_mem_nil⟩
theorem lenOk_pu {n : Nat} {e : PyData} (h : Pu n e) : lenOk e := by
  cases n with
  | zero => obtain ⟨i, rfl, _⟩ := h; exact True.intro
  | succ n => obtain ⟨ds, rfl, hl, _⟩ := h; exact Nat.le_trans hl (by decide)
theorem lenOk2_pu {n : Nat} {e : PyData} (h : Pu n e) : lenOk2 e := by
  cases n with
  | zero => obtain ⟨i, rfl, _⟩ := h; exact True.intro
  | succ n => obtain ⟨ds, rfl, hl, hx⟩ := h; exact ⟨Nat.le_trans hl (by decide), fun x m => lenOk_pu (hx x m)⟩
theorem lenOk_bt {p : Int} {n : Nat} {e : PyData} (h : Bt p n e) : lenOk e := by
  cases n with
  | zero =>
    rcases h with h | ⟨i, rfl, _⟩
    · exact (lenOk_odd h).1
    · exact True.intro
  | succ n =>
    rcases h with h | ⟨as, e', bs, rfl, la, lb, _⟩ | ⟨ds, rfl, hl, _⟩ | ⟨ds, rfl, _⟩
    · exact (lenOk_odd h).1
    · show (as ++ e' :: bs).length ≤ 1000
      rw [List.length_append, List.length_cons]
      omega
    · exact Nat.le_trans hl (by decide)
    · exact True.intro
theorem lenOk2_bt {p : Int} {n : Nat} {e : PyData} (h : Bt p n e) : lenOk2 e := by
  cases n with
  | zero =>
    rcases h with h | ⟨i, rfl, _⟩
    · exact (lenOk_odd h).2
    · exact True.intro
  | succ n =>
    rcases h with h | ⟨as, e', bs, rfl, la, lb, h1, h2, h3⟩ | ⟨ds, rfl, hl, h1⟩ | ⟨ds, rfl, _⟩
    · exact (lenOk_odd h).2
    · refine ⟨by rw [List.length_append, List.length_cons]; omega, fun x hx => ?_⟩
      rcases List.mem_append.mp hx with hx | hx
      · exact lenOk_pu (h1 x hx)
      · rcases List.mem_cons.mp hx with rfl | hx
        · exact lenOk_bt h3
        · exact lenOk_pu (h2 x hx)
    · exact ⟨Nat.le_trans hl (by decide), fun x m => lenOk_pu (h1 x m)⟩
    · exact True.intro
theorem tok_pu {n : Nat} {e : PyData} (h : Pu n e) (hn : n ≤ 2) : TOk e := by
  refine ⟨lenOk2_pu h, (pu_fit n e h).fit ?_ (by omega)⟩
  match n, hn with
  | 0, _ => decide
  | 1, _ => decide
  | 2, _ => decide
theorem tok_bt {p : Int} (hp1 : 2 ≤ p) (hp2 : p ≤ 1000) {n : Nat} {e : PyData} (h : Bt p n e) (hn : n ≤ 2) : TOk e := by
  have hp : p.natAbs < 10 ^ 30 := Nat.lt_of_le_of_lt (show p.natAbs ≤ 1000 by omega) (by decide)
  refine ⟨lenOk2_bt h, (bt_fit hp n e h).fit ?_ (by omega)⟩
  match n, hn with
  | 0, _ => decide
  | 1, _ => decide
  | 2, _ => decide
theorem pu_row {p : Int} {r : List Int} (h : RowOk p r) (hp : p ≤ 1000) (hl : r.length ≤ 20) : Pu 1 (rowD r) := by
  refine ⟨_, rfl, by rw [List.length_map]; omega, fun x hx => ?_⟩
  obtain ⟨i, mi, rfl⟩ := List.mem_map.mp hx
  have := h i mi
  exact ⟨i, rfl, by omega, by omega⟩
theorem pu_rows2 {p : Int} {n : Nat} {rs : List (List Int)} (h : RowsOk p n rs) (hp : p ≤ 1000) (hn : n ≤ 20) (hl : rs.length ≤ 30) : Pu 2 (.tuple (rs.map rowD)) := by
  refine ⟨_, rfl, by rw [List.length_map]; omega, fun x hx => ?_⟩
  obtain ⟨r, mr, rfl⟩ := List.mem_map.mp hx
  exact pu_row (h r mr).2 hp (by rw [(h r mr).1]; exact hn)
theorem pu_rep {x : Int} (hx : -1000000 ≤ x ∧ x ≤ 1000000) {n : Nat} (hn : n ≤ 20) : Pu 1 (rowD (List.replicate n x)) := by
  refine ⟨_, rfl, by rw [List.length_map, List.length_replicate]; omega, fun y hy => ?_⟩
  obtain ⟨i, mi, rfl⟩ := List.mem_map.mp hy
  have := List.eq_of_mem_replicate mi
  exact ⟨i, rfl, by omega, by omega⟩
end OC

set_option Elab.async false
set_option linter.all false
set_option maxRecDepth 100000
/-! lists of things, filled while the deck is drawn from -/
namespace OC
open PySem PySem.Spec PyProof.Rows L2
theorem cut_upto {xs : List V} {i : Int} (h0 : 0 ≤ i) : cutV xs none (some i) = xs.take i.toNat := by
  unfold cutV
  have e : HT.sIx xs.length xs.length (some i) = min i.toNat xs.length := by
    have := HT.sIx_nat xs.length xs.length i.toNat
    rw [show ((i.toNat : Nat) : Int) = i by omega] at this
    exact this
  rw [e, HT.sIx_none, List.drop_zero, Nat.sub_zero, ← List.take_eq_take_min]
structure Th (K : PySem.W.Frag) (H : Hp) (d c M : Addr) (vs : List V) (es : List PyData) : Prop where
  m : H M = some (.lst vs)
  nb : ¬ Bad d c M
  r : RepAll K H (fun a => Bad d c a ∨ a = M) vs es
section
variable {K : PySem.W.Frag} {H H' : Hp} {d c M : Addr} {t : Int} {vs : List V} {es : List PyData}
theorem Th.same (h : Th K H d c M vs es) (s : Same H H') : Th K H' d c M vs es := ⟨s _ _ h.m, h.nb, repAll_stays (Stays.of s) _ _ h.r⟩
theorem Th.kept (h : Th K H d c M vs es) (D : Deck H d c t) (k : Kept d c H H') : Th K H' d c M vs es :=
  ⟨k _ _ h.m (fun z => h.nb (.inl z)) (fun z => h.nb (.inr z)), h.nb, repAll_stays (Stays.kept2 D k (.inl (.inl rfl)) (.inl (.inr rfl))) _ _ h.r⟩
theorem Th.push (h : Th K H d c M vs es) {v : V} {e : PyData} (r : Rep K H (fun a => Bad d c a ∨ a = M) v e) : Th K (upd H M (.lst (vs ++ [v]))) d c M (vs ++ [v]) (es ++ [e]) := by
  have st : Stays (fun a => Bad d c a ∨ a = M) H (upd H M (.lst (vs ++ [v]))) := upd_stays (Stays.of (Same.refl H)) h.m (.inr rfl)
  exact ⟨upd_same, h.nb, repAll_append (repAll_stays st _ _ h.r) (.cons (rep_stays st _ _ r) .nil)⟩
theorem Th.new (D : Deck H d c t) (n : H M = none) (r : RepAll K H (Bad d c) vs es) : Th K (upd H M (.lst vs)) d c M vs es :=
  ⟨upd_same, D.fresh n, repAll_stays (Stays.of (same_upd n)) _ _ (repAll_fresh n _ _ r)⟩
theorem Th.more {B N : Addr} {ws : List V} {fs : List PyData} (h : Th K H d c M vs es) (g : Th K H d c B ws fs) (D : Deck H d c t) (n : H N = none) : Th K (upd H N (.lst (vs ++ ws))) d c N (vs ++ ws) (es ++ fs) :=
  Th.new D n (repAll_append (repAll_weak (fun _ h => .inl h) _ _ h.r) (repAll_weak (fun _ h => .inl h) _ _ g.r))
theorem rep_pu {b1 b2 : Addr → Prop} {n : Nat} {v : V} {e : PyData} (h : Pu n e) (r : Rep K H b1 v e) : Rep K H b2 v e := rep_pure (Tk.refl H) n e v h r
theorem Th.len (h : Th K H d c M vs es) : vs.length = es.length := repAll_len h.r
theorem Th.nbr (h : Th K H d c M vs es) : RepAll K H NB vs es := repAll_nb h.r
end
/-- [t for x in xs], each t a thing, made while the deck is drawn from -/
theorem lc_things {K : PySem.W.Frag} {J : It} {G : Hp → Prop} {n : Nat} {Pk : Nat → V → Prop} {σ : L2.St} {H : Hp} {d c : Addr} {t : Int} {Qd : Addr → Hp → Prop} {i : Nat} {sl : List Nat} {te : TE} (m : Int) (Ok : PyData → Prop)
    (w : Walk J n G (fun k H x H' => H' = H ∧ Pk k x)) (D : Deck H d c t) (hz : n ≤ 100) (hG : ∀ H', Kept d c H H' → G H') (hw : ∀ x : Option V, wipe ((wipe σ sl).set i x) sl = wipe σ sl)
    (hte : ∀ (k : Nat) (x : V) (H' : Hp) (t' : Int) (Q' : VK), k < n → Pk k x → Kept d c H H' → Deck H' d c t' → t' ≤ t + m * k →
      (∀ (v' : V) (e' : PyData) (H3 : Hp) (t3 : Int), Kept d c H' H3 → Deck H3 d c t3 → t3 ≤ t' + m → Rep K H3 (fun a => H' a ≠ none) v' e' → Ok e' → Q' v' H3) → te ((wipe σ sl).set i (some x)) H' Q')
    (hd : ∀ (B : Addr) (H' : Hp) (vs : List V) (fs : List PyData) (t' : Int), Kept d c H H' → Deck H' d c t' → t' ≤ t + m * n → H B = none → Th K H' d c B vs fs → (∀ e ∈ fs, Ok e) → vs.length = n → Qd B H') : LcGoal J (gName i) tYes te sl σ H Qd := by
  intro B nB
  have bB := D.fresh nB
  refine lc_it w (fun k H' => Kept d c H H' ∧ ∃ (t' : Int) (vs : List V) (fs : List PyData), Deck H' d c t' ∧ t' ≤ t + m * k ∧ Th K H' d c B vs fs ∧ (∀ e ∈ fs, Ok e) ∧ vs.length = k)
    ⟨Kept.of (same_upd nB), t, [], [], D.same (same_upd nB), by simp, Th.new D nB .nil, fun e he => (nomatch he), rfl⟩ (fun k H' _ hP => hG H' hP.1) (fun k x H1 H2 hk hP hY => ?_) (fun H' hP => ?_)
  · obtain ⟨rfl, px⟩ := hY
    obtain ⟨k', t', vs, fs, D', ht', th, okf, lv⟩ := hP
    refine ⟨hw _, hte k x H2 t' _ hk px k' D' ht' fun v' e' H3 t3 k3 D3 ht3 rv ok => ?_⟩
    have th3 := th.kept D' k3
    refine ⟨vs, th3.m, small1000 (by omega), (k'.trans k3).mut nB, t3, vs ++ [v'], fs ++ [e'], D3.mut bB, ?_, th3.push (rep_weak (fun b hb => ?_) _ _ rv), fun x hx => ?_, by rw [List.length_append, lv]; rfl⟩
    · have e : m * ((k + 1 : Nat) : Int) = m * k + m := by
        rw [Int.natCast_add, Int.mul_add]
        simp
      rw [e]
      omega
    · rcases hb with (z | z) | z
      · subst z; rw [D'.hd]; exact fun h => nomatch h
      · obtain ⟨cells, h1, _⟩ := D'.hc
        subst z; rw [h1]; exact fun h => nomatch h
      · subst z; rw [th.m]; exact fun h => nomatch h
    · rcases List.mem_append.mp hx with hx | hx
      · exact okf x hx
      · have : x = e' := by simpa using hx
        rw [this]
        exact ok
  · obtain ⟨k', t', vs, fs, D', ht', th, okf, lv⟩ := hP
    exact hd B H' vs fs t' k' D' ht' nB th okf lv
end OC

set_option Elab.async false
set_option linter.all false
set_option maxRecDepth 100000
/-! across: the program's own rows, and what they are -/
namespace OC
open PySem PySem.Spec PyProof.Rows L2 Lin
def crossF (p : Int) (room : List (List Int)) (j : Nat) (r0 : List Int) : List Int := room.foldl (fun r b => r.set (fpR b) ((-(b.getD j 0)) % p)) r0
def crossR (p : Int) (n : Nat) (room : List (List Int)) (j : Nat) : List Int := crossF p room j ((List.replicate n 0).set j 1)
def freesR (n : Nat) (room : List (List Int)) : List Nat := (List.range n).filter fun j => !decide (j ∈ room.map fpR)
def acrossR (p : Int) (n : Nat) (room : List (List Int)) : List (List Int) := plainR p n ((freesR n room).map (crossR p n room))
theorem crossF_take {p : Int} {room : List (List Int)} {j i : Nat} {b r0 : List Int} (h : room[i]? = some b) : crossF p (room.take (i + 1)) j r0 = (crossF p (room.take i) j r0).set (fpR b) ((-(b.getD j 0)) % p) := by
  unfold crossF
  rw [List.take_add_one, h, List.foldl_append]
  rfl
theorem crossF_len (p : Int) (j : Nat) : ∀ (room : List (List Int)) (r0 : List Int), (crossF p room j r0).length = r0.length
  | [], _ => rfl
  | b :: room, r0 => by
    show (crossF p room j (r0.set (fpR b) _)).length = _
    rw [crossF_len p j room, List.length_set]
theorem crossF_ok {p : Int} (hp : 0 < p) (j : Nat) : ∀ (room : List (List Int)) (r0 : List Int), (∀ x ∈ r0, 0 ≤ x ∧ x < p) → ∀ x ∈ crossF p room j r0, 0 ≤ x ∧ x < p
  | [], _, h => h
  | b :: room, r0, h => crossF_ok hp j room _ fun x hx => by
    rcases List.mem_or_eq_of_mem_set hx with hx | rfl
    · exact h x hx
    · exact ⟨Int.emod_nonneg _ (by omega), Int.emod_lt_of_pos _ hp⟩
theorem crossR_ok {p : Int} (hp : 2 ≤ p) (n : Nat) (room : List (List Int)) (j : Nat) : (crossR p n room j).length = n ∧ ∀ x ∈ crossR p n room j, 0 ≤ x ∧ x < p := by
  refine ⟨?_, crossF_ok (by omega) j room _ fun x hx => ?_⟩
  · unfold crossR
    rw [crossF_len, List.length_set, List.length_replicate]
  · rcases List.mem_or_eq_of_mem_set hx with hx | rfl
    · rw [List.eq_of_mem_replicate hx]
      omega
    · omega
section
variable {q : Nat} [NeZero q]
theorem getD_set {r : List Int} {k : Nat} {v : Int} (hk : k < r.length) (i : Nat) : (r.set k v).getD i 0 = if i = k then v else r.getD i 0 := by
  by_cases h : i = k
  · subst h
    rw [if_pos rfl, gd_lt (by rw [List.length_set]; exact hk), List.getElem_set_self]
  · rw [if_neg h]
    by_cases hi : i < r.length
    · rw [gd_lt (by rw [List.length_set]; exact hi), List.getElem_set_ne (fun z => h z.symm), gd_lt hi]
    · rw [gd_ge (by rw [List.length_set]; omega), gd_ge (by omega)]
theorem cF_neg (x : Int) : cF (q := q) (-x) = -cF x := by
  have h := cF_sub (q := q) 0 x
  rw [Int.zero_sub, cF_zero] at h
  rw [h]
  grind
theorem crossF_sim {n : Nat} (j : Nat) : ∀ (room : List (List Int)) (bs : List (Nat × Vec q)) (r0 : List Int), RowsOk q n room → r0.length = n → bs.map (·.2) = room.map (toV (q := q)) → (∀ b ∈ bs, Lead b.2 b.1 ∧ b.1 < n) → bs.Pairwise (fun a b => a.1 < b.1) → (∀ b ∈ bs, r0.getD b.1 0 = 0) →
    toV (q := q) (crossF q room j r0) = fun i => toV r0 i + (crossV bs j i - unitV j i)
  | [], [], r0, _, _, _, _, _, _ => by
    funext i
    show toV r0 i = toV r0 i + (unitV j i - unitV j i)
    grind
  | [], _ :: _, _, _, _, e, _, _, _ => by cases e
  | _ :: _, [], _, _, _, e, _, _, _ => by cases e
  | c :: room, b :: bs, r0, h1, h2, e, hl, hi, hz => by
    rw [List.map_cons, List.map_cons] at e
    obtain ⟨e1, e2⟩ := List.cons.inj e
    obtain ⟨i1, i2⟩ := List.pairwise_cons.mp hi
    have hc := h1 c List.mem_cons_self
    have hb := hl b List.mem_cons_self
    have fj : fpR c = b.1 := fpR_lead (q := q) hc.2 (by rw [← e1]; exact hb.1)
    have hlt : fpR c < r0.length := by rw [fj, h2]; exact hb.2
    have ih := crossF_sim j room bs (r0.set (fpR c) ((-(c.getD j 0)) % q)) (fun x hx => h1 x (List.mem_cons_of_mem _ hx)) (by rw [List.length_set]; exact h2) e2 (fun x hx => hl x (List.mem_cons_of_mem _ hx)) i2 fun x hx => by
      rw [getD_set hlt, if_neg (by rw [fj]; have := i1 x hx; omega)]
      exact hz x (List.mem_cons_of_mem _ hx)
    show toV (q := q) (crossF q room j (r0.set (fpR c) ((-(c.getD j 0)) % q))) = _
    rw [ih]
    funext i
    show cF ((r0.set (fpR c) ((-(c.getD j 0)) % q)).getD i 0) + (crossV bs j i - unitV j i) = toV r0 i + ((-(b.2 j)) * unitV b.1 i + crossV bs j i - unitV j i)
    have ej : b.2 j = cF (c.getD j 0) := congrFun e1 j
    have hz0 := hz b List.mem_cons_self
    rw [getD_set hlt, fj, ej]
    unfold unitV
    by_cases hib : i = b.1
    · subst hib
      rw [if_pos rfl, if_pos rfl, cF_mod, cF_neg]
      show -cF (c.getD j 0) + _ = cF (r0.getD b.1 0) + _
      rw [hz0, cF_zero]
      grind
    · rw [if_neg hib, if_neg hib]
      show cF (r0.getD i 0) + _ = cF (r0.getD i 0) + _
      grind
theorem firsts_eq {n : Nat} : ∀ (room : List (List Int)) (bs : List (Nat × Vec q)), RowsOk q n room → bs.map (·.2) = room.map (toV (q := q)) → (∀ b ∈ bs, Lead b.2 b.1) → room.map fpR = bs.map (·.1)
  | [], [], _, _, _ => rfl
  | [], _ :: _, _, e, _ => by cases e
  | _ :: _, [], _, e, _ => by cases e
  | c :: room, b :: bs, h1, e, hl => by
    rw [List.map_cons, List.map_cons] at e
    obtain ⟨e1, e2⟩ := List.cons.inj e
    rw [List.map_cons, List.map_cons, firsts_eq room bs (fun x hx => h1 x (List.mem_cons_of_mem _ hx)) e2 fun x hx => hl x (List.mem_cons_of_mem _ hx), fpR_lead (q := q) (h1 c List.mem_cons_self).2 (by rw [← e1]; exact hl b List.mem_cons_self)]
/-- the rows by the free places, as vectors -/
theorem IsPF.cross (hF : Fld (q : Int)) {n : Nat} {room : List (List Int)} (h : IsPF q n room) : ∃ bs : List (Nat × Vec q), PF n bs ∧ bs.map (·.2) = room.map (toV (q := q)) ∧ ((freesR n room).map (crossR q n room)).map (toV (q := q)) = (frees n bs).map (crossV bs) := by
  obtain ⟨ok, bs, pf, e⟩ := h
  have ld : ∀ b ∈ bs, Lead b.2 b.1 := fun b hb => pf.leads (one_ne (q2 hF)) hb
  have ef := firsts_eq room bs ok e ld
  refine ⟨bs, pf, e, ?_⟩
  have e1 : freesR n room = frees n bs := by
    unfold freesR frees isFirst
    rw [ef]
  rw [e1, List.map_map]
  apply List.map_congr_left
  intro j hj
  obtain ⟨jn, jf⟩ := mem_frees.mp hj
  have hz : ∀ b ∈ bs, ((List.replicate n (0 : Int)).set j 1).getD b.1 0 = 0 := fun b hb => by
    rw [getD_set (by rw [List.length_replicate]; exact jn), if_neg (jf b hb), gd_lt (by rw [List.length_replicate]; exact pf.lt b hb), List.getElem_replicate]
  show toV (q := q) (crossF q room j ((List.replicate n 0).set j 1)) = crossV bs j
  rw [crossF_sim (n := n) j room bs _ ok (by rw [List.length_set, List.length_replicate]) e (fun b hb => ⟨ld b hb, pf.lt b hb⟩) pf.inc hz]
  funext i
  have eu : toV (q := q) ((List.replicate n (0 : Int)).set j 1) i = unitV j i := by
    show cF (((List.replicate n (0 : Int)).set j 1).getD i 0) = _
    rw [getD_set (by rw [List.length_replicate]; exact jn)]
    unfold unitV
    by_cases hij : i = j
    · rw [if_pos hij, if_pos hij, cF_one (q2 hF)]
    · rw [if_neg hij, if_neg hij]
      by_cases hi : i < n
      · rw [gd_lt (by rw [List.length_replicate]; exact hi), List.getElem_replicate, cF_zero]
      · rw [gd_ge (by rw [List.length_replicate]; omega), cF_zero]
  rw [eu]
  grind
theorem free_rows {p : Int} (hp : 2 ≤ p) (n : Nat) (room : List (List Int)) : RowsOk p n ((freesR n room).map (crossR p n room)) := fun r hr => by
  obtain ⟨j, _, rfl⟩ := List.mem_map.mp hr
  exact crossR_ok hp n room j
theorem acrossR_perp (hF : Fld (q : Int)) {n : Nat} {room : List (List Int)} (h : IsPF q n room) (w : Vec q) : Mk q (acrossR q n room) w ↔ Perp n (Mk q room) w := by
  obtain ⟨bs, pf, e, ec⟩ := h.cross hF
  unfold acrossR
  rw [plainR_mk hF (free_rows hF.1 n room)]
  unfold Mk
  rw [ec, ← e]
  exact pf.perp_spn w
theorem good (hF : Fld (q : Int)) (n : Nat) : Good (invF (q := q)) n := ⟨one_ne (q2 hF), invF_ok hF⟩
theorem acrossR_size (hF : Fld (q : Int)) {n : Nat} {room : List (List Int)} (h : IsPF q n room) : (acrossR q n room).length + room.length = n := by
  obtain ⟨bs, pf, e, ec⟩ := h.cross hF
  have lb := congrArg List.length e
  rw [List.length_map, List.length_map] at lb
  unfold acrossR
  rw [plainR_len (free_rows hF.1 n room), ec, ← lb]
  exact (good hF n).perp_dim pf
theorem acrossR_pf (hF : Fld (q : Int)) (n : Nat) (room : List (List Int)) : IsPF q n (acrossR q n room) := plainR_pf hF (free_rows hF.1 n room)
/-- a row is of the room just where it is worth 0 at all worlds across -/
theorem perp_across (hF : Fld (q : Int)) {n : Nat} {room : List (List Int)} (h : IsPF q n room) (x : Vec q) : Perp n (Mk q (acrossR q n room)) x ↔ Mk q room x := by
  obtain ⟨_, bs, pb, eb⟩ := id h
  obtain ⟨_, cs, pc, ec⟩ := acrossR_pf hF n room
  have := (good hF n).perp_perp pb pc (fun w => by
    have := acrossR_perp hF h w
    unfold Mk at this
    rwa [← eb, ← ec] at this) x
  unfold Mk
  rwa [← eb, ← ec]
theorem acrossR_twice (hF : Fld (q : Int)) {n : Nat} {room : List (List Int)} (h : IsPF q n room) : acrossR q n (acrossR q n room) = room :=
  (acrossR_pf hF n _).uniq hF h fun x => (acrossR_perp hF (acrossR_pf hF n room) x).trans (perp_across hF h x)
/-! ### worth -/
theorem dot_sum {n : Nat} {x y : List Int} (hx : x.length = n) (hy : y.length = n) : ∀ k, k ≤ n → cF (q := q) ((List.zipWith (fun a b => a * b) x y).take k).sum = dot k (toV x) (toV y)
  | 0, _ => by
    rw [List.take_zero, List.sum_nil, cF_zero]
    rfl
  | k + 1, hk => by
    have g1 : x[k]? = some x[k] := List.getElem?_eq_getElem (by omega)
    have g2 : y[k]? = some y[k] := List.getElem?_eq_getElem (by omega)
    rw [sum_take (z := x[k] * y[k]) (by rw [List.getElem?_zipWith, g1, g2]), cF_add, dot_sum hx hy k (by omega), cF_mul]
    show _ = dot k (toV x) (toV y) + cF (x.getD k 0) * cF (y.getD k 0)
    rw [gd_lt (r := x) (by omega), gd_lt (r := y) (by omega)]
theorem worth_dot {n : Nat} {x y : List Int} (hx : x.length = n) (hy : y.length = n) : cF (q := q) (worthR q x y) = dot n (toV x) (toV y) := by
  unfold worthR
  rw [cF_mod, ← dot_sum hx hy n (Nat.le_refl n), List.take_of_length_le (by rw [List.length_zipWith]; omega)]
theorem worth_zero {n : Nat} {x y : List Int} (hx : x.length = n) (hy : y.length = n) : worthR q x y = 0 ↔ dot n (toV (q := q) x) (toV y) = 0 := by
  rw [← worth_dot hx hy]
  have := cF_ne (q := q) (worth_bd (p := q) (x := x) (y := y) q_pos)
  constructor
  · intro h
    rw [h, cF_zero]
  · intro h
    apply Classical.byContradiction
    intro hn
    exact this.mpr hn h
theorem spn_dot {n : Nat} {rows : List (List Int)} {w : Vec q} (h : ∀ r ∈ rows, dot n (toV (q := q) r) w = 0) {x : Vec q} (hx : Mk q rows x) : dot n x w = 0 := by
  have S : Sub (fun x : Vec q => dot n x w = 0) := dot_sub n w 0
  refine spn_le S (fun v hv => ?_) hx
  obtain ⟨r, hr, rfl⟩ := List.mem_map.mp hv
  exact h r hr
end
theorem PFR.across {p : Int} (hF : Fld p) (n : Nat) (room : List (List Int)) : PFR p n (acrossR p n room) := PFR.of_plain hF (free_rows hF.1 n room)
theorem PFR.across_size {p : Int} (hF : Fld p) {n : Nat} {room : List (List Int)} (h : PFR p n room) : (acrossR p n room).length + room.length = n := by
  obtain ⟨q, rfl, _, hF⟩ := to_q hF
  exact acrossR_size hF ((isPF_iff hF).mpr h)
theorem PFR.across_twice {p : Int} (hF : Fld p) {n : Nat} {room : List (List Int)} (h : PFR p n room) : acrossR p n (acrossR p n room) = room := by
  obtain ⟨q, rfl, _, hF⟩ := to_q hF
  exact acrossR_twice hF ((isPF_iff hF).mpr h)
/-- the rows of a room are worth 0 at all worlds across -/
theorem across_worth {p : Int} (hF : Fld p) {n : Nat} {rows : List (List Int)} (h : RowsOk p n rows) {r w : List Int} (hr : r ∈ rows) (hw : w ∈ acrossR p n (plainR p n rows)) : worthR p r w = 0 := by
  obtain ⟨q, rfl, _, hF⟩ := to_q hF
  have pf := plainR_pf hF h
  have ok := (acrossR_pf hF n (plainR q n rows)).1
  refine (worth_zero (h r hr).1 (ok w hw).1).mpr ?_
  have hp := (acrossR_perp hF pf (toV w)).mp (spn_mem (List.mem_map_of_mem hw))
  exact hp.2 _ ((plainR_mk hF h _).mpr (spn_mem (List.mem_map_of_mem hr)))
/-- a row is parted by some world across just where it isn't made -/
theorem across_parts {p : Int} (hF : Fld p) {n : Nat} {rows : List (List Int)} (h : RowsOk p n rows) {r : List Int} (hr : RowsOk p n [r]) : (∀ w ∈ acrossR p n (plainR p n rows), worthR p r w = 0) ↔ hasR p n rows r = true := by
  obtain ⟨q, rfl, _, hF⟩ := to_q hF
  have pf := plainR_pf hF h
  have ok := (acrossR_pf hF n (plainR q n rows)).1
  have okr := hr r List.mem_cons_self
  have e : hasR q n rows r = true ↔ Mk q rows (toV r) := by
    unfold hasR
    rw [decide_eq_true_iff]
    exact plainR_has hF h hr
  rw [e, ← plainR_mk hF h, ← perp_across hF pf]
  constructor
  · intro hz
    refine ⟨fun i hi => toV_wid okr.1 i hi, fun x hx => ?_⟩
    refine spn_dot (fun w hw => ?_) hx
    rw [dot_comm]
    exact (worth_zero okr.1 (ok w hw).1).mp (hz w hw)
  · intro hp w hw
    refine (worth_zero okr.1 (ok w hw).1).mpr ?_
    rw [dot_comm]
    exact hp.2 _ (spn_mem (List.mem_map_of_mem hw))
end OC

set_option Elab.async false
set_option linter.all false
set_option maxRecDepth 100000
set_option maxHeartbeats 2000000
/-! repr of any thing, lists with dicts too: the modules' own dict is none of them -/
namespace OC
open PySem PySem.Spec PyProof.Rows L2
def HasSys (base : Heap) : Prop := ∃ o, base.get? sysModules = some o
section
variable {X : Cx} {pins : List (Addr × Obj)} {σ : L2.St} {H : Hp} {s : Shared} {bad : Addr → Prop}
theorem sys_none (hs : HasSys X.base) (I : Inv X pins σ H s) : H sysModules = none := by
  obtain ⟨o, e⟩ := hs
  exact (I.bs _ _ e).2
mutual
theorem rep_readsS (hs : HasSys X.base) (I : Inv X pins σ H s) : ∀ (d : PyData) (v : V) (u : Value), Rep X.K H bad v d → RelV v u → ∃ as, Reads s.heap u d as ∧ sysModules ∉ as
  | .none, _, _, h, r => by cases h; cases r; exact ⟨_, .none, nofun⟩
  | .bool b, _, _, h, r => by cases h; cases r; exact ⟨_, .bool b, nofun⟩
  | .int i, _, _, h, r => by cases h; obtain ⟨t, rfl⟩ := r; exact ⟨_, .int i t, nofun⟩
  | .str x, _, _, h, r => by cases h; obtain ⟨t, rfl⟩ := r; exact ⟨_, .str x t, nofun⟩
  | .list ds, _, _, h, r => by
    cases h with
    | @lst a xs _ hq hb ha =>
      cases r
      have ne : sysModules ≠ a := fun z => by
        have := sys_none hs I
        rw [z, hq] at this
        cases this
      obtain ⟨its, rv, ⟨o, n, ho, hc, _, hd⟩, _⟩ := I.list (.inl (.inl hq))
      obtain ⟨as, q, f⟩ := repAll_readsS hs I ds _ its ha rv
      refine ⟨_, .list ho hc hd q, fun m => ?_⟩
      first
        | exact f m
        | (rcases List.mem_cons.mp m with z | m; exact ne z; exact f m)
  | .tuple ds, _, _, h, r => by
    cases h with
    | tup hq ha =>
      cases r
      obtain ⟨its, rv, ⟨o, ho, hc, n, hd⟩, _⟩ := I.tuple hq
      obtain ⟨as, q, f⟩ := repAll_readsS hs I ds _ its ha rv
      exact ⟨_, .tuple ho hc hd q, f⟩
  | .dict kvs, v, u, h, r => by
    cases h with
    | @dct a ks hq hf =>
      cases r
      obtain ⟨_, hsys, vs, kv, o, es, ep, ho, hx, hd, _, hp, _⟩ := I.hok a _ hq
      obtain ⟨r1, r2⟩ := reads_pairs (h := s.heap) hp kv hf
      refine ⟨a :: [] ++ [], .dict ho hx.1 hd (by rw [List.map_map]; exact r1) (by rw [List.map_map]; exact r2), fun m => ?_⟩
      have e : sysModules = a := by simpa using m
      rw [← e] at hsys
      simp at hsys
theorem repAll_readsS (hs : HasSys X.base) (I : Inv X pins σ H s) : ∀ (ds : List PyData) (vs : List V) (us : List Value), RepAll X.K H bad vs ds → Vals vs us → ∃ as, ReadsAll s.heap us ds as ∧ sysModules ∉ as
  | [], _, _, h, r => by cases h; cases r; exact ⟨_, .nil, nofun⟩
  | d :: ds, _, _, h, r => by
    cases h with
    | cons h1 h2 =>
      cases r with
      | cons r1 r2 =>
        obtain ⟨as, q1, f1⟩ := rep_readsS hs I d _ _ h1 r1
        obtain ⟨bs, q2, f2⟩ := repAll_readsS hs I ds _ _ h2 r2
        refine ⟨_, .cons q1 q2, fun m => ?_⟩
        rcases List.mem_append.mp m with m | m
        · exact f1 m
        · exact f2 m
end
end
/-- what repr asks of a thing, wherever dicts and lists stand in it -/
structure FitS (d : PyData) : Prop where
  len : d.shown.length ≤ 10000000
  sh : d.showable = true
  dp : d.depth ≤ 55
theorem Fit.s {d : PyData} (h : Fit d) : FitS d := ⟨Nat.le_trans h.len (by decide), h.sh, Nat.le_trans h.dp (by decide)⟩
theorem fitS_list {ds : List PyData} (hl : ds.length ≤ 5) (h : ∀ d ∈ ds, Fit d) : FitS (.list ds) := by
  refine ⟨?_, ?_, ?_⟩
  · simp only [PyData.shown]
    refine Nat.le_trans (listText_len_le _) ?_
    rw [shownAll_map, List.length_map]
    have h1 := sum_le (B := 1000000) (ts := ds.map PyData.shown) fun t ht => by
      obtain ⟨d, m, rfl⟩ := List.mem_map.mp ht
      exact (h d m).len
    rw [List.length_map] at h1
    omega
  · simp only [PyData.showable]
    exact showAll_of fun d m => (h d m).sh
  · simp only [PyData.depth]
    have := depthAll_of fun d m => (h d m).dp
    omega
def rReprS (K : PySem.W.Frag) (bad : Addr → Prop) : List V → Hp → VK → Prop := fun xs H Q => ∃ v d, xs = [v] ∧ Rep K H bad v d ∧ FitS d ∧ Q (.str d.shown) H
theorem call_reprS {X : Cx} {k : Nat} (bad : Addr → Prop) (hs : HasSys X.base) (hr : Room k X.A) (hgd : X.A.guards = some []) : CallR X (.builtin "repr") (rReprS X.K bad) := by
  intro pins s σ H xs us Q I r h
  obtain ⟨v, d, rfl, hv, ⟨fl, fs, fd⟩, q⟩ := h
  cases r with
  | cons r1 r2 =>
    cases r2
    have hz : d.shown.length ≤ sizeLine := Nat.le_trans fl (by decide)
    have hu := hr.units
    obtain ⟨as, rd, hsm⟩ := rep_readsS hs I d v _ hv r1
    cases hv with
    | non => cases r1; exact P.repr_of_none ⟨.str _, H, I.tok _, ⟨_, rfl⟩, q⟩
    | bl b => cases r1; exact P.repr_of_bool ⟨.str _, H, I.tok _, ⟨_, rfl⟩, q⟩
    | int i =>
      obtain ⟨t, rfl⟩ := r1
      exact P.repr_of_int (by simpa [PyData.showable] using fs) ⟨.str _, H, I.tok _, ⟨_, rfl⟩, q⟩
    | str x =>
      obtain ⟨t, rfl⟩ := r1
      exact P.repr_of_str ⟨.str _, H, I.tok _, ⟨_, rfl⟩, q⟩ hz
    | lst _ _ _ => cases r1; exact repr_of_reads' rd fs (fun _ => hsm) hgd (by omega) (fun _ _ e => e) (fun h' u tk hk => ⟨.str _, H, I.kept hk, ⟨_, rfl⟩, q⟩) hz
    | tup _ _ => cases r1; exact repr_of_reads' rd fs (fun _ => hsm) hgd (by omega) (fun _ _ e => e) (fun h' u tk hk => ⟨.str _, H, I.kept hk, ⟨_, rfl⟩, q⟩) hz
    | dct _ _ => cases r1; exact repr_of_reads' rd fs (fun _ => hsm) hgd (by omega) (fun _ _ e => e) (fun h' u tk hk => ⟨.str _, H, I.kept hk, ⟨_, rfl⟩, q⟩) hz
/-! ### the end, with that -/
section
variable {P : Program} {w : World} {K : PySem.W.Frag} {mg mb : Str → Option Value} {CX : CXT} {k : Nat} {fa a : Addr} {fd : FuncData} {x : Str} {sp : Sp} {s₁ : Shared} {vs : List Value} {ns : List Int}
theorem law_callS (KX : K.In s₁.heap) (hns : s₁.heap.Ns mainGlobals mg) (hb : s₁.heap.Ns builtinsNs mb) (hbb : ∀ x : Str, x ≠ "__name__" → mb x = bootBuiltins x) (hsy : ∃ mm, s₁.heap.Ns sysModules mm)
    (hlim : s₁.heap.NoLimit) (hg : s₁.gens = #[]) (ha : s₁.heap.get? a = some { cls := .type "list", data := .seq vs.toArray }) (hi : IntsAre vs ns) (hl : ns.length ≤ sizeLine) (hr : Room k callerA)
    (F : ∀ base : Heap, K.In base → base.Ns mainGlobals mg → HasSys base → FnG P w K mg base CX k fa fd [x] sp)
    (hbind : ∀ (s : Shared) (u : Value), BindsTo s fd ⟨[u], []⟩ [(x, u)])
    (hsp : ∀ H : Hp, Only H → SqL K H a (ns.map V.int) → sp [.ref a] H (fun v _ => v = .bl true) fun _ _ _ => False) (hCX : ∀ H e s', CX [] H s₁ (fun _ _ _ => False) e s' → False) :
    codeAny (model P w) callerA (.call (.ref fa) ⟨[.ref a], []⟩) (fun r s' => r = .ok (.ret (.bool true)) ∧ OldK s₁.heap s'.heap ∧ s'.os = s₁.os ∧ AllBare s'.gens) s₁ := by
  obtain ⟨mm, hmm⟩ := hsy
  -- a promise that asks for the modules' dict is one of those that ask for it anyway
  have core : ∀ H : Hp, Only H → sp [.ref a] H (fun v _ => v = .bl true) (fun _ _ _ => False) → HOk P w H s₁.heap → (∀ b, H b ≠ none → b = a) → (H a ≠ none → K.lookup a = none) →
      codeAny (model P w) callerA (.call (.ref fa) ⟨[.ref a], []⟩) (fun r s' => r = .ok (.ret (.bool true)) ∧ OldK s₁.heap s'.heap ∧ s'.os = s₁.os ∧ AllBare s'.gens) s₁ := by
    intro H hO hsp hok hA hK
    have off : ∀ {b : Addr} {o : Obj} {es : Array DictEntry} {ep : Nat}, s₁.heap.get? b = some o → o.data = .dict es ep → H b = none := by
      intro b o es ep e d
      apply Classical.byContradiction
      intro nb
      have eb := hA b nb
      subst eb
      rw [ha] at e
      have eo := Option.some.inj e
      subst eo
      cases (show Data.seq vs.toArray _ = Data.dict es ep from d)
    have nsB : ∀ {b : Addr} {m : Str → Option Value}, s₁.heap.Ns b m → (hidT s₁.heap H).Ns b m := by
      rintro b m ⟨o, es, ep, e, d, r⟩
      exact ⟨o, es, ep, hidT_get e (off e d), d, r⟩
    have inB : K.In (hidT s₁.heap H) := by
      intro b o e
      refine hidT_get (KX b o e) ?_
      apply Classical.byContradiction
      intro nb
      have eb := hA b nb
      subst eb
      rw [hK nb] at e
      cases e
    obtain ⟨mc, l1, l2⟩ := hlim
    have M : Mod K mg (hidT s₁.heap H) := ⟨inB, nsB hns, ⟨mb, nsB hb, hbb⟩, ⟨mc, nsB l1, l2⟩⟩
    have hs : HasSys (hidT s₁.heap H) := by
      obtain ⟨o, es, ep, e, _⟩ := nsB hmm
      exact ⟨o, e⟩
    have e0 : Env0 P w K mg (hidT s₁.heap H) callerA [] s₁ H :=
      ⟨rfl, M, fun b o e => of_hidT e, Nat.le_of_eq (hidT_size _ _), trivial, fun b hb => (nomatch (show b ∈ ([] : List Addr) from hb)), hok, .of_eq hg⟩
    have run := (F _ inB (nsB hns) hs).go callerA [] s₁ H ⟨[.ref a], []⟩ [.ref a] [.ref a] _ _ hr rfl e0 (hbind s₁ (.ref a)) (.cons rfl .nil) hsp
    apply codeAny_mono run
    intro r s' h
    rcases r with e | fl
    · exact (hCX H e s' h).elim
    · rcases fl with _ | _ | _ | u
      all_goals first
        | exact (show False from h).elim
        | skip
      obtain ⟨v, H', os, bare, un, hok', r', q⟩ := h
      cases (show v = .bl true from q)
      cases (show u = Value.bool true from r')
      refine ⟨rfl, OldK.of_keep ?_, os, bare⟩
      intro b o e
      rcases hO b with z | ⟨ob, xs, z⟩
      · exact un.keep b o e z (fun y => (nomatch (show b ∈ ([] : List Addr) from y))) (fun y => (nomatch y))
      · have e1 := (hok b _ z).1
        have e2 := (hok' b _ (un.frzs b ob _ z)).1
        rw [e] at e1
        rw [Option.some.inj e1]
        exact e2
  have rv := vals_ints hi
  have lv := hi.length
  cases hk : K.lookup a with
  | some o =>
    have e := KX a o hk
    rw [ha] at e
    have eo := (Option.some.inj e).symm
    subst eo
    have only : Only (fun _ => none) := fun _ => .inl rfl
    have sq : SqL K (fun _ => none) a (ns.map V.int) := .inr ⟨_, vs.toArray, _, hk, rfl, rfl, rfl, by rw [List.size_toArray, lv]; exact hl, by simpa using rv⟩
    exact core (fun _ => none) only (hsp _ only sq) (fun b u z => (nomatch (show (none : Option HO) = some u from z))) (fun b z => (z rfl).elim) (fun z => (z rfl).elim)
  | none =>
    let H0 : Hp := upd (fun _ => none) a (.frz { cls := .type "list", data := .seq vs.toArray } (.lst (ns.map V.int)))
    have at_a : H0 a = some (.frz { cls := .type "list", data := .seq vs.toArray } (.lst (ns.map V.int))) := upd_same
    have off : ∀ b, b ≠ a → H0 b = none := fun b n => upd_ne n
    have only : Only H0 := by
      intro b
      by_cases hb : b = a
      · subst hb
        exact .inr ⟨_, _, at_a⟩
      · exact .inl (off b hb)
    refine core H0 only (hsp _ only (.inl (.inr ⟨_, at_a⟩))) ?_ ?_ (fun _ => hk)
    · intro b u z
      by_cases hb : b = a
      · subst hb
        rw [at_a] at z
        have ez := (Option.some.inj z).symm
        subst ez
        exact ⟨ha, by rw [List.length_map]; exact hl, vs, _, rv, ha⟩
      · rw [off b hb] at z
        cases z
    · intro b z
      apply Classical.byContradiction
      intro hb
      exact z (off b hb)
end
theorem walk_ofS {l : PySem.W.OpenLaw} {n k : Nat} {q : Program} {loose : List Str} {XP : (Str → Option Value) → Heap → Prop} {YP : World → Heap → Prop} {d : DefRec} {K : Params → PySem.W.Frag} {CX : World → CXT} {sp : World → Sp} {x : Str}
    (hn : l.most = some n) (hn2 : n ≤ sizeLine) (hdf : d.params.defaults = []) (hr : Room k callerA) (him : importsNone q = true) (hY : ∀ (w : World) (h : Heap), YP w h → (K w.params).In h) (F : ∀ (w : World) (mg : Str → Option Value) (fa : Addr) (h : Heap), (K w.params).In h → h.Ns mainGlobals mg → mg d.name = some (.ref fa) → ∃ fd : FuncData, (∀ (s : Shared) (u : Value), BindsTo s fd ⟨[u], []⟩ [(x, u)]) ∧ ∀ base : Heap, (K w.params).In base → base.Ns mainGlobals mg → HasSys base → FnG l.prog w (K w.params) mg base (CX w) k fa fd [x] (sp w)) (hsp : ∀ (w : World) (H : Hp) (a : Addr) (ns : List Int), ns.length ≤ n → Only H → SqL (K w.params) H a (ns.map V.int) → sp w [.ref a] H (fun v _ => v = .bl true) fun _ _ _ => False) (hCX : ∀ (w : World) (H : Hp) (s : Shared) (e : Value) (s' : Shared), CX w [] H s (fun _ _ _ => False) e s' → False) : PySem.W.WalkO q loose XP YP l.row.toRowW d [] (fun f vs => PySem.call f vs) := by
  apply Att.attach_call hn hdf
  intro w s₀ s₁ mg mb fa o pm cd doc a vs ns G Y ho hd hcd hmg hobj hints hlen hg
  obtain ⟨fd, hb, hF⟩ := F w mg fa _ (hY w _ Y) G.T.g hmg
  have sy : ∃ mm, s₁.heap.Ns sysModules mm := by
    obtain ⟨mm, h1, _⟩ := (G.T.seer him).mods
    exact ⟨mm, h1⟩
  exact law_callS (hY w _ Y) G.T.g G.T.b G.T.builtins sy G.T.nolimit hg hobj hints (Nat.le_trans hlen hn2) hr hF hb (fun H hO hS => hsp w H a ns hlen hO hS) fun H e s' => hCX w H s₁ e s'
end OC

set_option Elab.async false
set_option linter.all false
set_option maxRecDepth 100000
/-! how rows are made: marked rows, taken off -/
namespace Lin
section
variable {p : Nat} [NeZero p]
theorem lin_pair : ∀ (fs : List (Fin p)) (us vs : List (Vec p)), us.length = vs.length → lin fs (List.zipWith addV us vs) = addV (lin fs us) (lin fs vs)
  | [], us, vs, _ => by
    rw [lin_nil, lin_nil, lin_nil]
    funext i
    show (0 : Fin p) = 0 + 0
    grind
  | f :: fs, [], [], _ => by
    show zeroV = addV zeroV zeroV
    funext i
    show (0 : Fin p) = 0 + 0
    grind
  | f :: fs, [], _ :: _, e => by cases e
  | f :: fs, _ :: _, [], e => by cases e
  | f :: fs, u :: us, v :: vs, e => by
    show addV (mulV f (addV u v)) (lin fs (List.zipWith addV us vs)) = addV (addV (mulV f u) (lin fs us)) (addV (mulV f v) (lin fs vs))
    rw [lin_pair fs us vs (Nat.succ.inj e)]
    funext i
    show f * (u i + v i) + (lin fs us i + lin fs vs i) = (f * u i + lin fs us i) + (f * v i + lin fs vs i)
    grind
def unitsV (p : Nat) [NeZero p] (o : Nat) : Nat → List (Vec p)
  | 0 => []
  | s + 1 => unitV o :: unitsV p (o + 1) s
theorem unitsV_len (o : Nat) : ∀ s, (unitsV p o s).length = s
  | 0 => rfl
  | s + 1 => by show (unitsV p (o + 1) s).length + 1 = s + 1; rw [unitsV_len (o + 1) s]
theorem lin_units : ∀ (fs : List (Fin p)) (o j : Nat), lin fs (unitsV p o fs.length) j = if o ≤ j then fs.getD (j - o) 0 else 0
  | [], o, j => by
    show (0 : Fin p) = _
    split <;> rfl
  | f :: fs, o, j => by
    show f * (if j = o then (1 : Fin p) else 0) + lin fs (unitsV p (o + 1) fs.length) j = _
    rw [lin_units fs (o + 1) j]
    rcases Nat.lt_trichotomy j o with h | h | h
    · rw [if_neg (by omega), if_neg (by omega), if_neg (by omega)]
      grind
    · subst h
      rw [if_pos rfl, if_neg (by omega), if_pos (Nat.le_refl _), Nat.sub_self]
      show f * 1 + 0 = f
      grind
    · rw [if_neg (by omega), if_pos (by omega), if_pos (by omega)]
      have e : j - o = (j - (o + 1)) + 1 := by omega
      rw [e]
      show f * 0 + fs.getD (j - (o + 1)) 0 = fs.getD (j - (o + 1)) 0
      grind
theorem lin_low {n : Nat} : ∀ (fs : List (Fin p)) (vs : List (Vec p)), (∀ v ∈ vs, ∀ i, n ≤ i → v i = 0) → ∀ i, n ≤ i → lin fs vs i = 0
  | [], vs, _, i, _ => by rw [lin_nil]; rfl
  | f :: fs, [], _, i, _ => rfl
  | f :: fs, v :: vs, h, i, hi => by
    show f * v i + lin fs vs i = 0
    rw [lin_low fs vs (fun x hx => h x (List.mem_cons_of_mem _ hx)) i hi, h v List.mem_cons_self i hi]
    grind
theorem lin_pad : ∀ (fs : List (Fin p)) (vs : List (Vec p)), ∃ gs : List (Fin p), gs.length = vs.length ∧ lin gs vs = lin fs vs
  | _, [] => ⟨[], rfl, by rw [lin_nil', lin_nil']⟩
  | [], v :: vs => by
    obtain ⟨gs, h1, h2⟩ := lin_pad [] vs
    refine ⟨0 :: gs, by rw [List.length_cons, List.length_cons, h1], ?_⟩
    show addV (mulV 0 v) (lin gs vs) = _
    rw [h2, lin_nil, lin_nil]
    funext i
    show 0 * v i + 0 = (0 : Fin p)
    grind
  | f :: fs, v :: vs => by
    obtain ⟨gs, h1, h2⟩ := lin_pad fs vs
    refine ⟨f :: gs, by rw [List.length_cons, List.length_cons, h1], ?_⟩
    show addV (mulV f v) (lin gs vs) = addV (mulV f v) (lin fs vs)
    rw [h2]
theorem lin_snoc : ∀ (fs : List (Fin p)) (vs : List (Vec p)) (c : Fin p) (v : Vec p), fs.length = vs.length → lin (fs ++ [c]) (vs ++ [v]) = addV (lin fs vs) (mulV c v)
  | [], [], c, v, _ => by
    show addV (mulV c v) zeroV = addV zeroV (mulV c v)
    funext i
    show c * v i + 0 = 0 + c * v i
    grind
  | [], _ :: _, _, _, e => by cases e
  | _ :: _, [], _, _, e => by cases e
  | f :: fs, u :: us, c, v, e => by
    show addV (mulV f u) (lin (fs ++ [c]) (us ++ [v])) = addV (addV (mulV f u) (lin fs us)) (mulV c v)
    rw [lin_snoc fs us c v (Nat.succ.inj e)]
    funext i
    show f * u i + (lin fs us i + c * v i) = f * u i + lin fs us i + c * v i
    grind
/-- no row is made by those ahead of it -/
def Free (vs : List (Vec p)) : Prop := ∀ k v, vs[k]? = some v → ¬ Spn (vs.take k) v
theorem Free.init {vs : List (Vec p)} {v : Vec p} (h : Free (vs ++ [v])) : Free vs ∧ ¬ Spn vs v := by
  constructor
  · intro k u hu
    have hk : k < vs.length := (List.getElem?_eq_some_iff.mp hu).1
    have := h k u (by rw [List.getElem?_append_left hk]; exact hu)
    rwa [List.take_append_of_le_length (by omega)] at this
  · have := h vs.length v (by rw [List.getElem?_append_right (Nat.le_refl _), Nat.sub_self]; rfl)
    rwa [List.take_append_of_le_length (Nat.le_refl _), List.take_length] at this
theorem Free.zero (inv : Fin p → Fin p) (hinv : ∀ a : Fin p, a ≠ 0 → inv a * a = 1) : ∀ (m : Nat) (vs : List (Vec p)) (fs : List (Fin p)), vs.length = m → Free vs → fs.length = vs.length → lin fs vs = zeroV → ∀ f ∈ fs, f = 0
  | 0, vs, fs, hm, _, hl, _ => by
    intro f hf
    rw [hm] at hl
    rw [List.length_eq_zero_iff.mp hl] at hf
    cases hf
  | m + 1, vs, fs, hm, hF, hl, hz => by
    obtain ⟨vs', v, rfl⟩ : ∃ vs' v, vs = vs' ++ [v] := by
      rcases List.eq_nil_or_concat vs with h | ⟨a, b, h⟩
      · rw [h] at hm; cases hm
      · exact ⟨a, b, by rw [h]; exact List.concat_eq_append⟩
    obtain ⟨fs', c, rfl⟩ : ∃ fs' c, fs = fs' ++ [c] := by
      rcases List.eq_nil_or_concat fs with h | ⟨a, b, h⟩
      · rw [h, hm] at hl; cases hl
      · exact ⟨a, b, by rw [h]; exact List.concat_eq_append⟩
    rw [List.length_append, List.length_append] at hl
    have hl' : fs'.length = vs'.length := by simpa using hl
    obtain ⟨h1, h2⟩ := hF.init
    rw [lin_snoc fs' vs' c v hl'] at hz
    have c0 : c = 0 := by
      apply Classical.byContradiction
      intro hc
      apply h2
      have hS := spn_sub vs'
      have h3 : Spn vs' (lin fs' vs') := ⟨fs', rfl⟩
      have h4 := hS.mul (-(inv c)) h3
      have e : v = mulV (-(inv c)) (lin fs' vs') := by
        funext i
        have e1 := congrFun hz i
        have e1 : lin fs' vs' i + c * v i = 0 := e1
        have e2 := hinv c hc
        show v i = -(inv c) * lin fs' vs' i
        have e3 : lin fs' vs' i = -(c * v i) := by grind
        rw [e3]
        have : inv c * c * v i = v i := by rw [e2]; grind
        grind
      rw [e]
      exact h4
    have hz' : lin fs' vs' = zeroV := by
      funext i
      have e1 := congrFun hz i
      have e1 : lin fs' vs' i + c * v i = 0 := e1
      rw [c0] at e1
      show lin fs' vs' i = 0
      grind
    intro f hf
    rcases List.mem_append.mp hf with hf | hf
    · exact Free.zero inv hinv m vs' fs' (by rw [List.length_append] at hm; simpa using hm) h1 hl' hz' f hf
    · have : f = c := by simpa using hf
      rw [this]
      exact c0
/-- the first places of marked rows are all ahead of the marks; what is left of a row that is made has noughts there -/
theorem marked_left (inv : Fin p → Fin p) (hinv : ∀ a : Fin p, a ≠ 0 → inv a * a = 1) (h1 : (1 : Fin p) ≠ 0) {n : Nat} {vs : List (Vec p)} (hw : ∀ v ∈ vs, ∀ i, n ≤ i → v i = 0) (hF : Free vs) {bs : List (Nat × Vec p)} {m : Nat} (pf : PF m bs)
    (hb : ∀ x, Spn (bs.map (·.2)) x ↔ Spn (List.zipWith addV vs (unitsV p n vs.length)) x) {x : Vec p} (hx : ∀ i, n ≤ i → x i = 0) :
    ((∀ i, i < n → leftV bs x i = 0) ↔ Spn vs x) ∧ ((∀ i, i < n → leftV bs x i = 0) → ∃ fs : List (Fin p), fs.length = vs.length ∧ x = lin fs vs ∧ ∀ j, j < vs.length → fs.getD j 0 = -(leftV bs x (n + j))) := by
  have hl : vs.length = (unitsV p n vs.length).length := (unitsV_len n vs.length).symm
  have eq : ∀ fs : List (Fin p), fs.length = vs.length → ∀ i, lin fs (List.zipWith addV vs (unitsV p n vs.length)) i = lin fs vs i + if n ≤ i then fs.getD (i - n) 0 else 0 := fun fs hf i => by
    rw [lin_pair fs vs _ hl]
    show lin fs vs i + lin fs (unitsV p n vs.length) i = _
    rw [← hf, lin_units]
  have leads : ∀ b ∈ bs, b.1 < n := fun b hbm => by
    apply Classical.byContradiction
    intro hge
    have hs := (hb b.2).mp (spn_mem (List.mem_map_of_mem hbm))
    obtain ⟨fs0, e0⟩ := hs
    obtain ⟨fs, lf, ef⟩ := lin_pad fs0 (List.zipWith addV vs (unitsV p n vs.length))
    have lz : (List.zipWith addV vs (unitsV p n vs.length)).length = vs.length := by rw [List.length_zipWith, ← hl, Nat.min_self]
    rw [lz] at lf
    have hz : lin fs vs = zeroV := by
      funext i
      show lin fs vs i = 0
      by_cases hi : n ≤ i
      · exact lin_low fs vs hw i hi
      · have := eq fs lf i
        rw [if_neg hi, ef, ← e0, pf.low b hbm i (by omega)] at this
        grind
    have fz := Free.zero inv hinv _ vs fs rfl hF lf hz
    have bz : b.2 b.1 = 0 := by
      have := eq fs lf b.1
      rw [ef, ← e0] at this
      rw [this, congrFun hz b.1]
      have gz : fs.getD (b.1 - n) 0 = 0 := by
        rw [List.getD_eq_getElem?_getD]
        cases hg : fs[b.1 - n]? with
        | none => rfl
        | some f => exact fz f (List.mem_of_getElem? hg)
      rw [gz]
      show (0 : Fin p) + (if n ≤ b.1 then 0 else 0) = 0
      split <;> grind
    rw [pf.one b hbm] at bz
    exact h1 bz
  -- what is left differs from the row by factors
  have diff : ∃ fs : List (Fin p), fs.length = vs.length ∧ ∀ i, leftV bs x i = x i - (lin fs vs i + if n ≤ i then fs.getD (i - n) 0 else 0) := by
    obtain ⟨fs0, e0⟩ := (hb (red bs x)).mp (spn_red bs x)
    obtain ⟨fs, lf, ef⟩ := lin_pad fs0 (List.zipWith addV vs (unitsV p n vs.length))
    have lz : (List.zipWith addV vs (unitsV p n vs.length)).length = vs.length := by rw [List.length_zipWith, ← hl, Nat.min_self]
    rw [lz] at lf
    refine ⟨fs, lf, fun i => ?_⟩
    show x i - red bs x i = _
    rw [← eq fs lf i, ef, ← e0]
  obtain ⟨fs, lf, hd⟩ := diff
  have sound : (∀ i, i < n → leftV bs x i = 0) → x = lin fs vs := fun hz => by
    funext i
    by_cases hi : n ≤ i
    · rw [hx i hi, lin_low fs vs hw i hi]
    · have h2 := hd i
      rw [hz i (by omega), if_neg hi] at h2
      grind
  refine ⟨⟨fun hz => ⟨fs, sound hz⟩, fun hs i hi => ?_⟩, fun hz => ⟨fs, lf, sound hz, fun j hj => ?_⟩⟩
  · obtain ⟨gs0, e0⟩ := hs
    obtain ⟨gs, lg, eg⟩ := lin_pad gs0 vs
    -- the row less what is made is noughts and the factors' contraries
    have hy : Spn (bs.map (·.2)) (lin gs (List.zipWith addV vs (unitsV p n vs.length))) := (hb _).mpr ⟨gs, rfl⟩
    have e1 : x = addV (lin gs (List.zipWith addV vs (unitsV p n vs.length))) (fun i => -(if n ≤ i then gs.getD (i - n) 0 else 0)) := by
      funext i
      show x i = lin gs (List.zipWith addV vs (unitsV p n vs.length)) i + -(if n ≤ i then gs.getD (i - n) 0 else 0)
      rw [eq gs lg i, e0, ← eg]
      grind
    have e2 : red bs x = lin gs (List.zipWith addV vs (unitsV p n vs.length)) := by
      rw [e1, red_add, pf.told hy]
      have : red bs (fun i => -(if n ≤ i then gs.getD (i - n) 0 else 0)) = zeroV := red_none bs _ fun b hbm => by
        show -(if n ≤ b.1 then gs.getD (b.1 - n) 0 else 0) = 0
        rw [if_neg (by have := leads b hbm; omega)]
        grind
      rw [this]
      funext i
      show _ + (0 : Fin p) = _
      grind
    show x i - red bs x i = 0
    rw [e2, eq gs lg i, if_neg (by omega), e0, ← eg]
    grind
  · have h2 := hd (n + j)
    rw [hx (n + j) (by omega), lin_low fs vs hw (n + j) (by omega), if_pos (by omega), show n + j - n = j by omega] at h2
    grind
end
end Lin
namespace OC
open PySem PySem.Spec PyProof.Rows L2 Lin
theorem row_noughts' {p : Int} (hp : 0 < p) (n : Nat) : (List.replicate n (0 : Int)).length = n ∧ ∀ x ∈ List.replicate n (0 : Int), 0 ≤ x ∧ x < p := ⟨List.length_replicate, fun x hx => by
  rw [List.eq_of_mem_replicate hx]
  omega⟩
def markR (s i : Nat) : List Int := List.replicate i 0 ++ [1] ++ List.replicate (s - i - 1) 0
def markedR (S : List (List Int)) : List (List Int) := (List.range S.length).map fun i => S.getD i [] ++ markR S.length i
def restR (p : Int) (n : Nat) (S : List (List Int)) (r : List Int) : List Int := leftR p (plainR p (n + S.length) (markedR S)) (r ++ List.replicate S.length 0)
def factorsR (p : Int) (m : Nat) (kts : List (Nat × Int)) : List Int := kts.foldl (fun F kt => F.set kt.1 ((-kt.2) % p)) (List.replicate m 0)
theorem markR_len {s i : Nat} (h : i < s) : (markR s i).length = s := by
  unfold markR
  rw [List.length_append, List.length_append, List.length_replicate, List.length_replicate]
  simp
  omega
theorem markR_getD {s i : Nat} (h : i < s) (j : Nat) : (markR s i).getD j 0 = if j = i then 1 else 0 := by
  unfold markR
  rw [List.getD_eq_getElem?_getD]
  rcases Nat.lt_trichotomy j i with hj | hj | hj
  · rw [if_neg (by omega), List.append_assoc, List.getElem?_append_left (by rw [List.length_replicate]; exact hj), List.getElem?_replicate, if_pos hj]
    rfl
  · subst hj
    rw [if_pos rfl, List.append_assoc, List.getElem?_append_right (by rw [List.length_replicate]; exact Nat.le_refl _), List.length_replicate, Nat.sub_self]
    rfl
  · rw [if_neg (by omega), List.getElem?_append_right (by rw [List.length_append, List.length_replicate]; simp; omega), List.length_append, List.length_replicate]
    by_cases hs : j < s
    · rw [List.getElem?_replicate, if_pos (by simp; omega)]
      rfl
    · rw [List.getElem?_replicate, if_neg (by simp; omega)]
      rfl
theorem app_getD {x y : List Int} {n : Nat} (hx : x.length = n) (j : Nat) : (x ++ y).getD j 0 = if j < n then x.getD j 0 else y.getD (j - n) 0 := by
  by_cases h : j < n
  · rw [if_pos h, List.getD_eq_getElem?_getD, List.getElem?_append_left (by omega), ← List.getD_eq_getElem?_getD]
  · rw [if_neg h, List.getD_eq_getElem?_getD, List.getElem?_append_right (by omega), hx, ← List.getD_eq_getElem?_getD]
theorem markedR_ok {p : Int} (hp : 2 ≤ p) {n : Nat} {S : List (List Int)} (h : RowsOk p n S) : RowsOk p (n + S.length) (markedR S) := fun r hr => by
  obtain ⟨i, hi, rfl⟩ := List.mem_map.mp hr
  have hi := List.mem_range.mp hi
  have hS := h (S.getD i []) (by rw [List.getD_eq_getElem?_getD, List.getElem?_eq_getElem hi]; exact List.getElem_mem hi)
  refine ⟨by rw [List.length_append, hS.1, markR_len hi], fun x hx => ?_⟩
  rcases List.mem_append.mp hx with hx | hx
  · exact hS.2 x hx
  · unfold markR at hx
    rcases List.mem_append.mp hx with hx | hx
    · rcases List.mem_append.mp hx with hx | hx
      · rw [List.eq_of_mem_replicate hx]
        omega
      · have : x = 1 := by simpa using hx
        omega
    · rw [List.eq_of_mem_replicate hx]
      omega
section
variable {q : Nat} [NeZero q]
theorem unitsV_get (o : Nat) : ∀ (s i : Nat), i < s → (unitsV q o s)[i]? = some (unitV (o + i))
  | 0, i, h => absurd h (Nat.not_lt_zero _)
  | s + 1, 0, _ => rfl
  | s + 1, i + 1, h => by
    show (unitsV q (o + 1) s)[i]? = _
    rw [unitsV_get (o + 1) s i (by omega)]
    congr 2
    omega
theorem markedR_toV (hF : Fld (q : Int)) {n : Nat} {S : List (List Int)} (h : RowsOk q n S) : (markedR S).map (toV (q := q)) = List.zipWith addV (S.map (toV (q := q))) (unitsV q n S.length) := by
  apply List.ext_getElem?
  intro i
  unfold markedR
  rw [List.map_map, List.getElem?_map]
  by_cases hi : i < S.length
  · have g1 : (List.range S.length)[i]? = some i := by rw [List.getElem?_eq_getElem (by rw [List.length_range]; exact hi), List.getElem_range]
    have g2 : (S.map (toV (q := q)))[i]? = some (toV S[i]) := by rw [List.getElem?_map, List.getElem?_eq_getElem hi]; rfl
    rw [g1, List.getElem?_zipWith, g2, unitsV_get n S.length i hi]
    show some (toV (q := q) (S.getD i [] ++ markR S.length i)) = some (addV (toV S[i]) (unitV (n + i)))
    congr 1
    have eS : S.getD i [] = S[i] := by rw [List.getD_eq_getElem?_getD, List.getElem?_eq_getElem hi]; rfl
    have hS := h S[i] (List.getElem_mem hi)
    funext j
    show cF ((S.getD i [] ++ markR S.length i).getD j 0) = cF (S[i].getD j 0) + unitV (n + i) j
    rw [eS, app_getD hS.1, markR_getD hi]
    unfold unitV
    by_cases hj : j < n
    · rw [if_pos hj, if_neg (by omega)]
      grind
    · rw [if_neg hj, gd_ge (r := S[i]) (by omega), cF_zero]
      by_cases e : j = n + i
      · rw [if_pos e, if_pos (by omega), cF_one (q2 hF)]
        grind
      · rw [if_neg e, if_neg (by omega), cF_zero]
        grind
  · rw [List.getElem?_eq_none (by rw [List.length_range]; omega), List.getElem?_eq_none (by rw [List.length_zipWith, List.length_map]; omega)]
    rfl
theorem someR_free (hF : Fld (q : Int)) {n : Nat} {rs : List (List Int)} (h : RowsOk q n rs) : Free ((someR q n rs).map (toV (q := q))) := by
  intro k v hv
  have okS := someR_ok (p := q) (n := n) h
  obtain ⟨_, _, fc⟩ := someR_all hF rs h
  have hk : k < (someR q n rs).length := by
    have := (List.getElem?_eq_some_iff.mp hv).1
    rwa [List.length_map] at this
  rw [List.getElem?_map, List.getElem?_eq_getElem hk] at hv
  have ev : v = toV (someR q n rs)[k] := (Option.some.inj hv).symm
  subst ev
  have hm : k ∈ needR q n (someR q n rs) := by rw [fc]; exact List.mem_range.mpr hk
  have hg := of_decide_eq_true (List.mem_filter.mp hm).2
  have eapp : (someR q n rs).take (k + 1) = (someR q n rs).take k ++ [(someR q n rs)[k]] := by
    rw [List.take_add_one, List.getElem?_eq_getElem hk]
    rfl
  rw [eapp] at hg
  have := (plainR_grows hF (fun x hx => okS x (List.mem_of_mem_take hx)) (rowsOk_one (okS _ (List.getElem_mem hk)))).mp hg
  unfold Mk at this
  rwa [List.map_take] at this
theorem toV_plus {x y : List Int} (h : x.length = y.length) (m : Int) : toV (q := q) (plusR q x y m) = addV (toV x) (mulV (cF m) (toV y)) := by
  funext i
  show cF ((plusR q x y m).getD i 0) = cF (x.getD i 0) + cF m * cF (y.getD i 0)
  unfold plusR
  by_cases hi : i < x.length
  · rw [getD_zipWith _ h hi, cF_mod, cF_add, cF_mul]
  · rw [gd_ge (by rw [List.length_zipWith]; omega), gd_ge (r := x) (by omega), gd_ge (r := y) (by omega), cF_zero]
    grind
theorem toV_made {n : Nat} : ∀ (rs : List (List Int)) (F z : List Int), z.length = n → (∀ r ∈ rs, r.length = n) → F.length = rs.length → toV (q := q) (madeR q z (rs.zip F)) = addV (toV z) (lin (F.map (cF (q := q))) (rs.map (toV (q := q))))
  | [], [], z, _, _, _ => by
    funext i
    show toV z i = toV z i + 0
    grind
  | [], _ :: _, _, _, _, e => by cases e
  | _ :: _, [], _, _, _, e => by cases e
  | r :: rs, f :: F, z, hz, hr, e => by
    show toV (q := q) (madeR q (plusR q z r f) (rs.zip F)) = _
    have lz : z.length = r.length := by rw [hz, hr r List.mem_cons_self]
    rw [toV_made rs F (plusR q z r f) (by rw [plus_len lz]; exact hz) (fun x hx => hr x (List.mem_cons_of_mem _ hx)) (Nat.succ.inj e), toV_plus lz]
    funext i
    show toV z i + cF f * toV r i + lin (F.map cF) (rs.map toV) i = toV z i + (cF f * toV r i + lin (F.map cF) (rs.map toV) i)
    grind
theorem lin_set : ∀ (F : List (Fin q)) (vs : List (Vec q)) (k : Nat) (c : Fin q) (v : Vec q), F.length = vs.length → F[k]? = some 0 → vs[k]? = some v → lin (F.set k c) vs = addV (lin F vs) (mulV c v)
  | [], _, _, _, _, _, h, _ => by simp at h
  | _ :: _, [], _, _, _, e, _, _ => by cases e
  | f :: F, u :: us, 0, c, v, e, h1, h2 => by
    have h1 : f = 0 := Option.some.inj h1
    have h2 : u = v := Option.some.inj h2
    subst h1 h2
    show addV (mulV c u) (lin F us) = addV (addV (mulV 0 u) (lin F us)) (mulV c u)
    funext i
    show c * u i + lin F us i = 0 * u i + lin F us i + c * u i
    grind
  | f :: F, u :: us, k + 1, c, v, e, h1, h2 => by
    show addV (mulV f u) (lin (F.set k c) us) = addV (addV (mulV f u) (lin F us)) (mulV c v)
    rw [lin_set F us k c v (Nat.succ.inj e) h1 h2]
    funext i
    show f * u i + (lin F us i + c * v i) = f * u i + lin F us i + c * v i
    grind
/-- the factors of the needed rows, set at their numbers -/
theorem lin_sets (vs : List (Vec q)) : ∀ (kts : List (Nat × Int)) (F : List Int), F.length = vs.length → (∀ kt ∈ kts, kt.1 < vs.length ∧ F[kt.1]? = some 0) → (kts.map (·.1)).Nodup →
    lin ((kts.foldl (fun F kt => F.set kt.1 ((-kt.2) % q)) F).map (cF (q := q))) vs = addV (lin (F.map (cF (q := q))) vs) (lin (kts.map fun kt => -(cF (q := q) kt.2)) (kts.map fun kt => vs.getD kt.1 zeroV))
  | [], F, _, _, _ => by
    funext i
    show _ = _ + (0 : Fin q)
    show lin (F.map cF) vs i = lin (F.map cF) vs i + 0
    grind
  | kt :: kts, F, hl, h, nd => by
    obtain ⟨h1, h2⟩ := h kt List.mem_cons_self
    rw [List.map_cons, List.nodup_cons] at nd
    show lin ((kts.foldl (fun F kt => F.set kt.1 ((-kt.2) % q)) (F.set kt.1 ((-kt.2) % q))).map (cF (q := q))) vs = _
    rw [lin_sets vs kts (F.set kt.1 ((-kt.2) % q)) (by rw [List.length_set]; exact hl) (fun x hx => by
      refine ⟨(h x (List.mem_cons_of_mem _ hx)).1, ?_⟩
      rw [List.getElem?_set_ne (fun e => nd.1 (by rw [e]; exact List.mem_map_of_mem hx))]
      exact (h x (List.mem_cons_of_mem _ hx)).2) nd.2]
    rw [List.map_set, lin_set (F.map cF) vs kt.1 _ (vs.getD kt.1 zeroV) (by rw [List.length_map]; exact hl) (by rw [List.getElem?_map, h2]; show some (cF 0) = _; rw [cF_zero]) (by rw [List.getD_eq_getElem?_getD, List.getElem?_eq_getElem h1]; rfl), cF_mod, cF_neg]
    funext i
    show lin (F.map cF) vs i + -cF kt.2 * vs.getD kt.1 zeroV i + lin _ _ i = lin (F.map cF) vs i + (-cF kt.2 * vs.getD kt.1 zeroV i + lin _ _ i)
    grind
theorem someR_get (n : Nat) (rs : List (List Int)) : (someR q n rs).map (toV (q := q)) = (needR q n rs).map fun k => (rs.map (toV (q := q))).getD k zeroV := by
  unfold someR
  rw [List.map_map]
  apply List.map_congr_left
  intro k hk
  have hk' := needR_lt hk
  show toV (q := q) (rs.getD k []) = (rs.map (toV (q := q))).getD k zeroV
  rw [List.getD_eq_getElem?_getD, List.getD_eq_getElem?_getD, List.getElem?_map, List.getElem?_eq_getElem hk']
  rfl
theorem replicate_app_ok {n s : Nat} {r : List Int} (hp : 0 < (q : Int)) (hr : RowsOk q n [r]) : RowsOk q (n + s) [r ++ List.replicate s 0] := by
  have h := hr r List.mem_cons_self
  refine rowsOk_one ⟨by rw [List.length_append, h.1, List.length_replicate], fun x hx => ?_⟩
  rcases List.mem_append.mp hx with hx | hx
  · exact h.2 x hx
  · rw [List.eq_of_mem_replicate hx]
    omega
/-- what makes tells -/
theorem makes_facts (hF : Fld (q : Int)) {n : Nat} {rs : List (List Int)} (h : RowsOk q n rs) {r : List Int} (hr : RowsOk q n [r]) :
    ((∀ x ∈ (restR q n (someR q n rs) r).take n, x = 0) ↔ hasR q n rs r = true) ∧ ((∀ x ∈ (restR q n (someR q n rs) r).take n, x = 0) → madeR q (List.replicate n 0) (rs.zip (factorsR q rs.length ((needR q n rs).zip ((restR q n (someR q n rs) r).drop n)))) = r) := by
  have okS := someR_ok (p := q) (n := n) h
  have okr := hr r List.mem_cons_self
  have okM := markedR_ok hF.1 okS
  have okx := replicate_app_ok (s := (someR q n rs).length) q_pos hr
  obtain ⟨mkS, _, _⟩ := someR_all hF rs h
  have lenk : (needR q n rs).length = (someR q n rs).length := needR_len _ _ _
  have fr := someR_free hF h
  have gs := someR_get (q := q) n rs
  unfold restR
  generalize hS : someR q n rs = S at *
  obtain ⟨bs, pf, eb, okl, et⟩ := (plainR_pf hF okM).left hF okx
  have okl := okl _ List.mem_cons_self
  have hb : ∀ x, Spn (bs.map (·.2)) x ↔ Spn (List.zipWith addV (S.map (toV (q := q))) (unitsV q n (S.map (toV (q := q))).length)) x := fun x => by
    rw [eb, List.length_map, ← markedR_toV hF okS]
    exact plainR_mk hF okM x
  have ex : toV (q := q) (r ++ List.replicate S.length 0) = toV r := by
    funext j
    show cF ((r ++ List.replicate S.length 0).getD j 0) = cF (r.getD j 0)
    rw [app_getD okr.1]
    by_cases hj : j < n
    · rw [if_pos hj]
    · rw [if_neg hj, gd_ge (r := r) (by omega)]
      congr 1
      rw [List.getD_eq_getElem?_getD, List.getElem?_replicate]
      split <;> rfl
  rw [ex] at et
  obtain ⟨m1, m2⟩ := marked_left invF (invF_ok hF) (one_ne (q2 hF)) (fun v hv i hi => by
    obtain ⟨x, mx, rfl⟩ := List.mem_map.mp hv
    exact toV_wid (okS x mx).1 i hi) fr pf hb (x := toV r) (fun i hi => toV_wid okr.1 i hi)
  generalize leftR q (plainR q (n + S.length) (markedR S)) (r ++ List.replicate S.length 0) = t at okl et
  have tz : (∀ x ∈ t.take n, x = 0) ↔ ∀ i, i < n → leftV bs (toV r) i = 0 := by
    constructor
    · intro hz i hi
      rw [← et]
      refine (toV_eq0 okl.2 i).mpr ?_
      rw [gd_lt (by omega)]
      refine hz _ ?_
      rw [List.mem_iff_getElem?]
      exact ⟨i, by rw [List.getElem?_take, if_pos hi, List.getElem?_eq_getElem (by omega)]⟩
    · intro hz x hx
      obtain ⟨i, hi⟩ := List.mem_iff_getElem?.mp hx
      rw [List.getElem?_take] at hi
      by_cases hin : i < n
      · rw [if_pos hin] at hi
        have := hz i hin
        rw [← et] at this
        have := (toV_eq0 okl.2 i).mp this
        rw [List.getD_eq_getElem?_getD, hi] at this
        exact this
      · rw [if_neg hin] at hi
        cases hi
  have hh : hasR q n rs r = true ↔ Mk q rs (toV r) := by
    unfold hasR
    rw [decide_eq_true_iff]
    exact plainR_has hF h hr
  refine ⟨by rw [tz, m1, hh]; exact mkS (toV r), fun hz => ?_⟩
  obtain ⟨fs, lf, e1, e2⟩ := m2 (tz.mp hz)
  rw [List.length_map] at lf e2
  -- the factors told
  have lt : (t.drop n).length = S.length := by rw [List.length_drop, okl.1]; omega
  have lzip : ((needR q n rs).zip (t.drop n)).length = S.length := by rw [List.length_zip, lenk, lt, Nat.min_self]
  have lF : ∀ (kts : List (Nat × Int)) (F : List Int), (kts.foldl (fun F kt => F.set kt.1 ((-kt.2) % q)) F).length = F.length := by
    intro kts
    induction kts with
    | nil => intro F; rfl
    | cons kt kts ih => intro F; show (kts.foldl _ (F.set kt.1 _)).length = _; rw [ih, List.length_set]
  have okz := row_noughts' (p := (q : Int)) q_pos n
  have hlen : (factorsR q rs.length ((needR q n rs).zip (t.drop n))).length = rs.length := by
    unfold factorsR
    rw [lF, List.length_replicate]
  have em := toV_made (q := q) rs (factorsR q rs.length ((needR q n rs).zip (t.drop n))) (List.replicate n 0) List.length_replicate (fun x hx => (h x hx).1) hlen
  have el := lin_sets (q := q) (rs.map (toV (q := q))) ((needR q n rs).zip (t.drop n)) (List.replicate rs.length 0) (by rw [List.length_replicate, List.length_map]) (fun kt hkt => by
    have hk := needR_lt (List.of_mem_zip hkt).1
    exact ⟨by rw [List.length_map]; exact hk, by rw [List.getElem?_replicate, if_pos hk]⟩) (by
    rw [List.map_fst_zip (by omega)]
    exact (List.nodup_range).filter _)
  have ez : lin ((List.replicate rs.length (0 : Int)).map (cF (q := q))) (rs.map (toV (q := q))) = zeroV := by
    have : ∀ (m : Nat) (vs : List (Vec q)), lin ((List.replicate m (0 : Int)).map (cF (q := q))) vs = zeroV := by
      intro m
      induction m with
      | zero => intro vs; exact lin_nil vs
      | succ m ih =>
        intro vs
        cases vs with
        | nil => exact lin_nil' _
        | cons v vs =>
          rw [List.replicate_succ, List.map_cons]
          show addV (mulV (cF 0) v) (lin _ vs) = zeroV
          rw [ih vs, cF_zero]
          funext i
          show 0 * v i + 0 = (0 : Fin q)
          grind
    exact this _ _
  have e3 : ((needR q n rs).zip (t.drop n)).map (fun kt => -(cF (q := q) kt.2)) = fs := by
    apply List.ext_getElem?
    intro i
    rw [List.getElem?_map]
    by_cases hi : i < S.length
    · have g1 : (t.drop n)[i]? = some (t.getD (n + i) 0) := by
        rw [List.getElem?_drop, List.getElem?_eq_getElem (by omega), gd_lt (by omega)]
      have g0 : (needR q n rs)[i]? = some (needR q n rs)[i] := List.getElem?_eq_getElem (by omega)
      have gz : ((needR q n rs).zip (t.drop n))[i]? = some ((needR q n rs)[i], t.getD (n + i) 0) := by
        rw [List.getElem?_zip_eq_some]
        exact ⟨g0, g1⟩
      rw [gz, List.getElem?_eq_getElem (by omega)]
      have := e2 i hi
      rw [← et] at this
      rw [List.getD_eq_getElem?_getD, List.getElem?_eq_getElem (show i < fs.length by omega)] at this
      show some (-(cF (q := q) (t.getD (n + i) 0))) = some fs[i]
      congr 1
      exact this.symm
    · rw [List.getElem?_eq_none (by omega), List.getElem?_eq_none (by omega)]
      rfl
  have e4 : ((needR q n rs).zip (t.drop n)).map (fun kt => (rs.map (toV (q := q))).getD kt.1 zeroV) = S.map (toV (q := q)) := by
    rw [gs, ← List.map_fst_zip (l₁ := needR q n rs) (l₂ := t.drop n) (by omega), List.map_map]
    rw [List.map_fst_zip (by omega)]
    rfl
  refine toV_inj ?_ ?_ okr.2 ?_
  · rw [made_len q n _ _ List.length_replicate fun x hx => (h x.1 (List.of_mem_zip hx).1).1, okr.1]
  · exact made_ok q_pos _ _ okz.2
  · rw [em]
    unfold factorsR
    rw [el, ez, e3, e4, ← e1]
    funext i
    have : toV (q := q) (List.replicate n (0 : Int)) i = 0 := by
      show cF ((List.replicate n (0 : Int)).getD i 0) = 0
      rw [List.getD_eq_getElem?_getD, List.getElem?_replicate]
      split
      · exact cF_zero
      · exact cF_zero
    show toV (List.replicate n 0) i + (0 + toV r i) = toV r i
    rw [this]
    grind
end
end OC

set_option Elab.async false
set_option linter.all false
set_option maxRecDepth 100000
set_option maxHeartbeats 2000000
namespace OC
open PySem PySem.Spec PyProof.Rows L2
/-! ### a tuple taken no times -/
theorem tuple_mul0 (l : Addr) (its : Array Value) (m : Nat) (od : Option Addr) (so : Array (Option Value)) (u : Tok) (hne : its.isEmpty = false) :
    Meets (Builtin.«tuple.__mul__» ⟨[.ref l, .int 0 u], []⟩) (fun _ R s => s.heap.get? l = some { cls := .type "tuple", dict := od, data := .seq its m, slots := so } ∧ R (.ok (.ret (Value.ref s.heap.objs.size))) { s with heap := s.heap.push { cls := Value.type "tuple", data := Data.seq #[] }, toks := s.toks }) := by
  refine .of_wp fun prog w A R s hh => ?_
  obtain ⟨hp, g, d, tk, os⟩ := s
  obtain ⟨hl, hR⟩ := hh
  have fi := AutoSeq1.idx_int
  have c0 : (decide ((0 : Int) < -(2 ^ 63)) || decide ((0 : Int) ≥ 2 ^ 63)) = false := by decide
  have c1 : (its.isEmpty || (0 : Int) == 1) = false := by rw [hne]; rfl
  have c2 : (decide ((0 : Int) ≤ 0) || its.isEmpty) = true := by simp
  wp_walk using wpAny_loadPart' hl
  first
    | exact ⟨_, rfl, hR⟩
    | (repeat (first
        | (refine wpAny_ite_false (decide_eq_false (by rw [c0]; exact Bool.false_ne_true)) ?_; wp_walk using wpAny_loadPart' hl)
        | (refine wpAny_ite_false (decide_eq_false (by rw [c1]; exact Bool.false_ne_true)) ?_; wp_walk using wpAny_loadPart' hl)
        | (refine wpAny_ite_true (decide_eq_true (by rw [c2])) ?_; wp_walk using wpAny_loadPart' hl))
       exact ⟨_, rfl, hR⟩)
/-- t * n, n from 0 on, whichever tuple it is -/
def rRepZ (K : PySem.W.Frag) : R2 := fun x y H Q => ∃ l k xs, x = .ref l ∧ y = .int k ∧ SqT K H l xs ∧ xs ≠ [] ∧ 0 ≤ k ∧ k ≤ 1000 ∧ xs.length ≤ 1000 ∧ ∀ p H', Same H H' → SqT K H' p (List.replicate k.toNat xs).flatten → Q (.ref p) H'
theorem op_repZ {X : Cx} : OpR X (binaryOp .Mult) (rRepZ X.K) := by
  intro pins s σ H x y v u Q I rx ry h
  obtain ⟨l, k, xs, ex, ey, hT, hne, h1, h2, hz, q⟩ := h
  by_cases hk : k = 0
  · subst hk ex ey
    cases rx
    obtain ⟨t, rfl⟩ := ry
    obtain ⟨its, r, ⟨⟨cls, dd, data, sl⟩, ho, hc, n, hd⟩, hs⟩ := I.tuple hT
    simp only at hc hd
    subst hc hd
    have hi : its.toArray.isEmpty = false := by
      cases its with
      | nil => exact absurd (List.eq_nil_of_length_eq_zero (by rw [r.length]; rfl)) hne
      | cons a b => rfl
    refine wpAny_binaryOp_repeat_ref (T := "tuple") (U := "int") (by decide) ⟨_, ho, rfl⟩ (fun s' => typeIs_int s' 0 t) noFill_tuple_mul F.fills_int_mul F.slot_int_rmul repeat_tuple F.slot_int_index.lookup ?_
    refine call_meets F.slot_int_rmul (typeIs_int s 0 t) F.entry_int_rmul (F.args_int_rmul_2 _ _) (int_rmul_tuple 0 t l its.toArray n dd sl) ⟨ho, rfl, ⟨_, ho, rfl⟩, ?_⟩
    refine call_meets F.slot_tuple_mul ⟨_, ho, rfl⟩ F.entry_tuple_mul (F.args_tuple_mul_2 _ _) (tuple_mul0 l its.toArray n dd sl t hi) ⟨ho, ?_⟩
    have fr := I.hok.fresh (Nat.le_refl s.heap.objs.size)
    exact ⟨.ref s.heap.objs.size, _, I.laid (t' := s.toks) (o := .tup []) (fun b ob z => Heap.get?_push_of_some _ z) (Nat.le_refl _) ⟨Nat.zero_le _, [], .nil, IsTup.new _ _⟩, rfl, q _ _ (same_upd fr) (.inl (.inl upd_same))⟩
  · exact op_repB pins s σ H x y v u Q I rx ry ⟨l, k, xs, ex, ey, hT, hne, by omega, h2, hz, q⟩
theorem makesI {p : Int} (hF : Fld p) {n : Nat} {rs : List (List Int)} (h : RowsOk p n rs) {r : List Int} (hr : RowsOk p n [r]) :
    ((∀ x ∈ (restR p n (someR p n rs) r).take n, x = 0) ↔ hasR p n rs r = true) ∧ ((∀ x ∈ (restR p n (someR p n rs) r).take n, x = 0) → madeR p (List.replicate n 0) (rs.zip (factorsR p rs.length ((needR p n rs).zip ((restR p n (someR p n rs) r).drop n)))) = r) := by
  obtain ⟨q, rfl, _, hF⟩ := to_q hF
  exact makes_facts hF h hr
theorem factorsR_len (p : Int) (m : Nat) (kts : List (Nat × Int)) : (factorsR p m kts).length = m := by
  have lF : ∀ (kts : List (Nat × Int)) (F : List Int), (kts.foldl (fun F kt => F.set kt.1 ((-kt.2) % p)) F).length = F.length := by
    intro kts
    induction kts with
    | nil => intro F; rfl
    | cons kt kts ih => intro F; show (kts.foldl _ (F.set kt.1 _)).length = _; rw [ih, List.length_set]
  unfold factorsR
  rw [lF, List.length_replicate]
theorem factorsR_ok {p : Int} (hp : 0 < p) (m : Nat) (kts : List (Nat × Int)) : ∀ x ∈ factorsR p m kts, 0 ≤ x ∧ x < p := by
  have lF : ∀ (kts : List (Nat × Int)) (F : List Int), (∀ x ∈ F, 0 ≤ x ∧ x < p) → ∀ x ∈ kts.foldl (fun F kt => F.set kt.1 ((-kt.2) % p)) F, 0 ≤ x ∧ x < p := by
    intro kts
    induction kts with
    | nil => intro F h; exact h
    | cons kt kts ih =>
      intro F h
      refine ih _ fun x hx => ?_
      rcases List.mem_or_eq_of_mem_set hx with hx | rfl
      · exact h x hx
      · exact ⟨Int.emod_nonneg _ (by omega), Int.emod_lt_of_pos _ hp⟩
  refine lF kts _ fun x hx => ?_
  rw [List.eq_of_mem_replicate hx]
  omega
theorem factorsR_take {p : Int} {m i : Nat} {kts : List (Nat × Int)} {kt : Nat × Int} (h : kts[i]? = some kt) : factorsR p m (kts.take (i + 1)) = (factorsR p m (kts.take i)).set kt.1 ((-kt.2) % p) := by
  unfold factorsR
  rw [List.take_add_one, h, List.foldl_append]
  rfl
def sp_needed (K : PySem.W.Frag) : Sp := fun vs H Q _ => ∃ (a : Addr) (ws : List V) (rs : List (List Int)) (p : Int) (n : Nat), vs = [.int p, .int (n : Int), .ref a] ∧ SqT K H a ws ∧ DpAll K H ws (rs.map rowD) ∧ rs.length ≤ 100 ∧ RowsOk p n rs ∧ Fld p ∧ p ≤ 1000 ∧ n ≤ 100 ∧
  ∀ (H' : Hp) (l : Addr), Same H H' → H' l = some (.tup (numsV (needR p n rs))) → Q (.ref l) H'
end OC

set_option Elab.async false
set_option linter.all false
set_option maxRecDepth 100000
set_option maxHeartbeats 4000000
/-! the text of a tuple of rows tells the rows -/
namespace OC
open PySem PySem.Spec PyProof.Rows L2
/-- behind the first part -/
def Rn : List (List Nat) → List Nat
  | [] => [41]
  | u :: us => 44 :: 32 :: (u ++ Rn us)
/-- a tuple's signs out of its parts' -/
def Tn : List (List Nat) → List Nat
  | [] => [40, 41]
  | [u] => 40 :: (u ++ [44, 41])
  | u :: v :: us => 40 :: (u ++ Rn (v :: us))
def Tl (s : List Nat) : Prop := ∀ c r, s = c :: r → c = 44 ∨ c = 41
structure Gd (G : List Nat → Prop) : Prop where
  free : ∀ u v s s', G u → G v → Tl s → Tl s' → u ++ s = v ++ s' → u = v ∧ s = s'
  head : ∀ u, G u → ∃ c r, u = c :: r ∧ c ≠ 41
theorem rn_tl (us : List (List Nat)) (s : List Nat) : Tl (Rn us ++ s) := fun c r h => by
  cases us with
  | nil => right; simp [Rn] at h; exact h.1.symm
  | cons u us => left; simp [Rn] at h; exact h.1.symm
theorem rn_inj {G : List Nat → Prop} (g : Gd G) : ∀ (us vs : List (List Nat)) (s s' : List Nat), (∀ u ∈ us, G u) → (∀ v ∈ vs, G v) → Rn us ++ s = Rn vs ++ s' → us = vs ∧ s = s'
  | [], [], s, s', _, _, h => by simp [Rn] at h; exact ⟨rfl, h⟩
  | [], v :: vs, s, s', _, _, h => by simp [Rn] at h
  | u :: us, [], s, s', _, _, h => by simp [Rn] at h
  | u :: us, v :: vs, s, s', hu, hv, h => by
    simp only [Rn, List.cons_append, List.cons.injEq, true_and, List.append_assoc] at h
    obtain ⟨e1, e2⟩ := g.free _ _ _ _ (hu u List.mem_cons_self) (hv v List.mem_cons_self) (rn_tl us s) (rn_tl vs s') h
    obtain ⟨e3, e4⟩ := rn_inj g us vs s s' (fun x hx => hu x (List.mem_cons_of_mem _ hx)) (fun x hx => hv x (List.mem_cons_of_mem _ hx)) e2
    exact ⟨by rw [e1, e3], e4⟩
theorem tn_inj {G : List Nat → Prop} (g : Gd G) (us vs : List (List Nat)) (s s' : List Nat) (hu : ∀ u ∈ us, G u) (hv : ∀ v ∈ vs, G v) (h : Tn us ++ s = Tn vs ++ s') : us = vs ∧ s = s' := by
  have tl1 : ∀ s : List Nat, Tl ([44, 41] ++ s) := fun s c r h => by left; simp at h; exact h.1.symm
  match us, vs with
  | [], [] => simp [Tn] at h; exact ⟨rfl, h⟩
  | [], [v] =>
    obtain ⟨c, r, e, n⟩ := g.head v (hv v List.mem_cons_self)
    subst e
    simp [Tn] at h
    exact absurd h.1.symm n
  | [], v :: w :: vs =>
    obtain ⟨c, r, e, n⟩ := g.head v (hv v List.mem_cons_self)
    subst e
    simp [Tn] at h
    exact absurd h.1.symm n
  | [u], [] =>
    obtain ⟨c, r, e, n⟩ := g.head u (hu u List.mem_cons_self)
    subst e
    simp [Tn] at h
    exact absurd h.1 n
  | u :: w :: us, [] =>
    obtain ⟨c, r, e, n⟩ := g.head u (hu u List.mem_cons_self)
    subst e
    simp [Tn] at h
    exact absurd h.1 n
  | [u], [v] =>
    simp only [Tn, List.cons_append, List.cons.injEq, true_and, List.append_assoc] at h
    obtain ⟨e1, e2⟩ := g.free _ _ _ _ (hu u List.mem_cons_self) (hv v List.mem_cons_self) (tl1 s) (tl1 s') h
    simp at e2
    exact ⟨by rw [e1], e2⟩
  | [u], v :: w :: vs =>
    simp only [Tn, List.cons_append, List.cons.injEq, true_and, List.append_assoc] at h
    obtain ⟨e1, e2⟩ := g.free _ _ _ _ (hu u List.mem_cons_self) (hv v List.mem_cons_self) (tl1 s) (rn_tl _ s') h
    simp [Rn] at e2
  | u :: w :: us, [v] =>
    simp only [Tn, List.cons_append, List.cons.injEq, true_and, List.append_assoc] at h
    obtain ⟨e1, e2⟩ := g.free _ _ _ _ (hu u List.mem_cons_self) (hv v List.mem_cons_self) (rn_tl _ s) (tl1 s') h
    simp [Rn] at e2
  | u :: w :: us, v :: x :: vs =>
    simp only [Tn, List.cons_append, List.cons.injEq, true_and, List.append_assoc] at h
    obtain ⟨e1, e2⟩ := g.free _ _ _ _ (hu u List.mem_cons_self) (hv v List.mem_cons_self) (rn_tl _ s) (rn_tl _ s') h
    obtain ⟨e3, e4⟩ := rn_inj g (w :: us) (x :: vs) s s' (fun x hx => hu x (List.mem_cons_of_mem _ hx)) (fun x hx => hv x (List.mem_cons_of_mem _ hx)) e2
    exact ⟨by rw [e1, e3], e4⟩
/-- figures -/
def Fg (u : List Nat) : Prop := u ≠ [] ∧ ∀ c ∈ u, 48 ≤ c ∧ c ≤ 57
theorem fg_gd : Gd Fg := by
  refine ⟨fun u => ?_, fun u h => ?_⟩
  · intro v s s' hu hv ts ts' h
    replace hu := hu.2
    replace hv := hv.2
    induction u generalizing v with
    | nil =>
      cases v with
      | nil => exact ⟨rfl, h⟩
      | cons c v =>
        have := hv c List.mem_cons_self
        rcases ts c (v ++ s') h with h | h <;> omega
    | cons c u ih =>
      cases v with
      | nil =>
        have := hu c List.mem_cons_self
        rcases ts' c (u ++ s) h.symm with h | h <;> omega
      | cons d v =>
        simp only [List.cons_append, List.cons.injEq] at h
        obtain ⟨e1, e2⟩ := ih v h.2 (fun x hx => hu x (List.mem_cons_of_mem _ hx)) fun x hx => hv x (List.mem_cons_of_mem _ hx)
        exact ⟨by rw [h.1, e1], e2⟩
  · obtain ⟨h1, h2⟩ := h
    cases u with
    | nil => exact absurd rfl h1
    | cons c r =>
      have := h2 c List.mem_cons_self
      exact ⟨c, r, rfl, by omega⟩
def Tg (u : List Nat) : Prop := ∃ us, (∀ x ∈ us, Fg x) ∧ u = Tn us
theorem tn_head (us : List (List Nat)) : ∃ r, Tn us = 40 :: r := by
  match us with
  | [] => exact ⟨_, rfl⟩
  | [u] => exact ⟨_, rfl⟩
  | u :: v :: us => exact ⟨_, rfl⟩
theorem tg_gd : Gd Tg := by
  refine ⟨fun u v s s' hu hv _ _ h => ?_, fun u h => ?_⟩
  · obtain ⟨us, h1, rfl⟩ := hu
    obtain ⟨vs, h2, rfl⟩ := hv
    obtain ⟨e1, e2⟩ := tn_inj fg_gd us vs s s' h1 h2 h
    exact ⟨by rw [e1], e2⟩
  · obtain ⟨us, h1, rfl⟩ := h
    obtain ⟨r, e⟩ := tn_head us
    exact ⟨40, r, e, by decide⟩
def enc (d : PyData) : List Nat := d.shown.cps.toList
theorem sg_sep : ((", " : String) : Str).cps.toList = [44, 32] := by decide
theorem sg_lp : (("(" : String) : Str).cps.toList = [40] := by decide
theorem enc_join : ∀ (x : Str) (ts : List Str), (Str.join ", " (x :: ts)).cps.toList ++ [41] = x.cps.toList ++ Rn (ts.map fun t => t.cps.toList)
  | x, [] => by simp [join_one, Rn]
  | x, y :: r => by
    rw [join_cons_cons, cps_toList_append, cps_toList_append, sg_sep, List.append_assoc, enc_join y r]
    simp [Rn]
theorem enc_tup (ds : List PyData) : enc (.tuple ds) = Tn (ds.map enc) := by
  unfold enc
  rw [PyData.shown_tuple, cps_toList_append, cps_toList_append, sg_lp, signs_tuple_end, shownAll_map]
  match ds with
  | [] => rfl
  | [d] => rw [if_pos (show ([d].length == 1) = true from rfl)]; rfl
  | d :: e :: r =>
    rw [if_neg (by simp), List.map_cons, List.append_assoc, enc_join, List.map_map]
    rfl
theorem enc_int (i : Nat) : enc (.int (i : Int)) = (Nat.toDigits 10 i).map Char.toNat := by
  unfold enc
  rw [PyData.shown_int]
  show (Str.ofString (toString (i : Int))).cps.toList = _
  rw [signs_ofString, show toString (i : Int) = Nat.repr i from rfl, Nat.toList_repr]
def decN (u : List Nat) : Nat := u.foldl (fun a c => a * 10 + (c - 48)) 0
theorem dec_all : (List.range 1000).all (fun i => decide (decN ((Nat.toDigits 10 i).map Char.toNat) = i) && !((Nat.toDigits 10 i).map Char.toNat).isEmpty && ((Nat.toDigits 10 i).map Char.toNat).all fun c => decide (48 ≤ c) && decide (c ≤ 57)) = true := by decide +kernel
theorem enc_small {i : Int} (h0 : 0 ≤ i) (h1 : i < 1000) : decN (enc (.int i)) = i.toNat ∧ Fg (enc (.int i)) := by
  obtain ⟨k, rfl⟩ := Int.eq_ofNat_of_zero_le h0
  have := List.all_eq_true.mp dec_all k (List.mem_range.mpr (by omega))
  rw [enc_int]
  simp only [Bool.and_eq_true, decide_eq_true_eq, List.all_eq_true] at this
  exact ⟨by rw [this.1.1]; rfl, by have := this.1.2; intro e; rw [e] at this; exact absurd this (by decide), fun c hc => this.2 c hc⟩
theorem map_inj_on {α β : Type} (f : α → β) : ∀ (xs ys : List α), (∀ x ∈ xs, ∀ y ∈ ys, f x = f y → x = y) → xs.map f = ys.map f → xs = ys
  | [], [], _, _ => rfl
  | [], _ :: _, _, h => by simp at h
  | _ :: _, [], _, h => by simp at h
  | x :: xs, y :: ys, hf, h => by
    simp only [List.map_cons, List.cons.injEq] at h
    rw [hf x List.mem_cons_self y List.mem_cons_self h.1, map_inj_on f xs ys (fun a ha b hb => hf a (List.mem_cons_of_mem _ ha) b (List.mem_cons_of_mem _ hb)) h.2]
theorem enc_row (r : List Int) : enc (rowD r) = Tn (r.map fun x => enc (.int x)) := by
  show enc (.tuple (r.map PyData.int)) = _
  rw [enc_tup, List.map_map]
  rfl
theorem row_fg {p : Int} (hp : p ≤ 1000) {r : List Int} (h : ∀ x ∈ r, 0 ≤ x ∧ x < p) : ∀ u ∈ r.map fun x => enc (.int x), Fg u := fun u hu => by
  obtain ⟨x, mx, rfl⟩ := List.mem_map.mp hu
  have := h x mx
  exact (enc_small this.1 (by omega)).2
theorem enc_row_inj {p : Int} (hp : p ≤ 1000) {r s : List Int} (hr : ∀ x ∈ r, 0 ≤ x ∧ x < p) (hs : ∀ x ∈ s, 0 ≤ x ∧ x < p) (h : enc (rowD r) = enc (rowD s)) : r = s := by
  rw [enc_row, enc_row] at h
  have := (tn_inj fg_gd _ _ [] [] (row_fg hp hr) (row_fg hp hs) (by rw [h])).1
  refine map_inj_on _ _ _ (fun x mx y my e => ?_) this
  have h1 := hr x mx
  have h2 := hs y my
  have e1 := (enc_small h1.1 (by omega)).1
  have e2 := (enc_small h2.1 (by omega)).1
  rw [e] at e1
  omega
theorem shown_rows_inj {p : Int} {n : Nat} (hp : p ≤ 1000) {rs ss : List (List Int)} (hr : RowsOk p n rs) (hs : RowsOk p n ss) (h : (PyData.tuple (rs.map rowD)).shown = (PyData.tuple (ss.map rowD)).shown) : rs = ss := by
  have h : enc (.tuple (rs.map rowD)) = enc (.tuple (ss.map rowD)) := by unfold enc; rw [h]
  rw [enc_tup, enc_tup, List.map_map, List.map_map] at h
  have tg : ∀ (ts : List (List Int)), RowsOk p n ts → ∀ u ∈ ts.map (enc ∘ rowD), Tg u := fun ts ht u hu => by
    obtain ⟨r, mr, rfl⟩ := List.mem_map.mp hu
    exact ⟨_, row_fg hp (ht r mr).2, enc_row r⟩
  have := (tn_inj tg_gd _ _ [] [] (tg rs hr) (tg ss hs) (by rw [h])).1
  exact map_inj_on _ _ _ (fun x mx y my e => enc_row_inj hp (hr x mx).2 (hs y my).2 e) this
end OC

set_option Elab.async false
set_option linter.all false
set_option maxRecDepth 100000
set_option maxHeartbeats 4000000
/-! what rows make, by p -/
namespace OC
open PySem PySem.Spec PyProof.Rows L2 Lin
/-- the rows make the row -/
def InR (p : Int) (rs : List (List Int)) (r : List Int) : Prop := ∀ (q : Nat) (_ : NeZero q), p = (q : Int) → Mk q rs (toV (q := q) r)
theorem InR.mem {p : Int} {rs : List (List Int)} {r : List Int} (h : r ∈ rs) : InR p rs r := fun q _ _ => spn_mem (List.mem_map_of_mem h)
theorem InR.mono {p : Int} {rs ts : List (List Int)} {r : List Int} (h : ∀ x ∈ rs, InR p ts x) (hr : InR p rs r) : InR p ts r := fun q z e =>
  spn_sub_of (fun v hv => by
    obtain ⟨x, mx, rfl⟩ := List.mem_map.mp hv
    exact h x mx q z e) (hr q z e)
theorem toV_noughts {q : Nat} [NeZero q] (n : Nat) : toV (q := q) (List.replicate n 0) = zeroV := by
  funext i
  unfold toV zeroV
  rw [show (List.replicate n (0 : Int)).getD i 0 = 0 by
    rw [List.getD_eq_getElem?_getD]
    by_cases h : i < n
    · simp [h]
    · simp [h]]
  exact cF_zero
theorem InR.noughts (p : Int) (rs : List (List Int)) (n : Nat) : InR p rs (List.replicate n 0) := fun q z e => by
  rw [toV_noughts]
  exact (spn_sub _).zero
theorem InR.plus {p : Int} {rs : List (List Int)} {x y : List Int} (m : Int) (hl : x.length = y.length) (hx : InR p rs x) (hy : InR p rs y) : InR p rs (plusR p x y m) := fun q z e => by
  subst e
  rw [toV_plus hl]
  exact (spn_sub _).add (hx q z rfl) ((spn_sub _).mul _ (hy q z rfl))
theorem hasR_in {p : Int} (hF : Fld p) {n : Nat} {rs : List (List Int)} {r : List Int} (h : RowsOk p n rs) (hr : RowsOk p n [r]) : hasR p n rs r = true ↔ InR p rs r := by
  obtain ⟨q, rfl, z, hq⟩ := to_q hF
  unfold hasR
  rw [decide_eq_true_iff, plainR_has hF h hr]
  constructor
  · intro hm q' z' e
    have : q = q' := by omega
    subst this
    exact hm
  · intro hm
    exact hm q z rfl
theorem plain_same {p : Int} (hF : Fld p) {n : Nat} {one other : List (List Int)} (h1 : RowsOk p n one) (h2 : RowsOk p n other) (a : ∀ r ∈ one, InR p other r) (b : ∀ r ∈ other, InR p one r) : plainR p n one = plainR p n other := by
  obtain ⟨q, rfl, z, hq⟩ := to_q hF
  refine plainR_congr hF h1 h2 fun x => ⟨fun hx => ?_, fun hx => ?_⟩
  · exact spn_sub_of (fun v hv => by
      obtain ⟨y, my, rfl⟩ := List.mem_map.mp hv
      exact a y my q z rfl) hx
  · exact spn_sub_of (fun v hv => by
      obtain ⟨y, my, rfl⟩ := List.mem_map.mp hv
      exact b y my q z rfl) hx
theorem same_plain {p : Int} (hF : Fld p) {n : Nat} {one other : List (List Int)} (h1 : RowsOk p n one) (h2 : RowsOk p n other) (h : plainR p n one = plainR p n other) : ∀ r ∈ one, InR p other r := fun r mr q' z' e => by
  subst e
  have := (plainR_mk hF h1 (toV r)).mpr (spn_mem (List.mem_map_of_mem mr))
  rw [h] at this
  exact (plainR_mk hF h2 (toV r)).mp this
theorem plain_iff {p : Int} (hF : Fld p) {n : Nat} {one other : List (List Int)} (h1 : RowsOk p n one) (h2 : RowsOk p n other) :
    decide (plainR p n one = plainR p n other) = (one.all (hasR p n other) && other.all (hasR p n one)) := by
  have e1 : one.all (hasR p n other) = true ↔ ∀ r ∈ one, InR p other r := by
    rw [List.all_eq_true]
    exact ⟨fun h r mr => (hasR_in hF h2 (rowsOk_one (h1 r mr))).mp (h r mr), fun h r mr => (hasR_in hF h2 (rowsOk_one (h1 r mr))).mpr (h r mr)⟩
  have e2 : other.all (hasR p n one) = true ↔ ∀ r ∈ other, InR p one r := by
    rw [List.all_eq_true]
    exact ⟨fun h r mr => (hasR_in hF h1 (rowsOk_one (h2 r mr))).mp (h r mr), fun h r mr => (hasR_in hF h1 (rowsOk_one (h2 r mr))).mpr (h r mr)⟩
  by_cases h : plainR p n one = plainR p n other
  · rw [decide_eq_true h, e1.mpr (same_plain hF h1 h2 h), e2.mpr (same_plain hF h2 h1 h.symm)]
    rfl
  · rw [decide_eq_false h]
    cases ha : one.all (hasR p n other) with
    | false => rfl
    | true =>
      cases hb : other.all (hasR p n one) with
      | false => rfl
      | true => exact absurd (plain_same hF h1 h2 (e1.mp ha) (e2.mp hb)) h
theorem plain_one_more {p : Int} (hF : Fld p) {n : Nat} {rs : List (List Int)} {r : List Int} (h : RowsOk p n rs) (hr : RowsOk p n [r]) : (plainR p n (rs ++ [r])).length = (plainR p n rs).length + (if hasR p n rs r = true then 0 else 1) := by
  by_cases hh : hasR p n rs r = true
  · rw [if_pos hh]
    exact of_decide_eq_true hh
  · rw [if_neg hh]
    obtain ⟨q, rfl, z, hq⟩ := to_q hF
    refine plainR_more hF h hr fun hm => hh ?_
    unfold hasR
    rw [decide_eq_true_iff, plainR_has hF h hr]
    exact hm
/-- a row so many times, and made rows put to it: it is made back -/
theorem InR.back {p : Int} (hF : Fld p) {ts : List (List Int)} {r own : List Int} {m : Int} (m0 : 1 ≤ m) (m1 : m < p) {n : Nat} (hr : r.length = n) (h : InR p ts own) (e : own = plusR p (List.replicate n 0) r m ∨ ∃ x, InR p ts x ∧ x.length = n ∧ own = plusR p (plusR p (List.replicate n 0) r m) x 1) : InR p ts r := fun q z ep => by
  subst ep
  obtain ⟨b, b0, b1, eb⟩ := hF.2 m m0 m1
  have q2 : 2 ≤ q := by have := hF.1; omega
  have hone : cF (q := q) b * cF (q := q) m = 1 := by
    rw [← cF_mul, Int.mul_comm, ← cF_mod, eb, cF_one q2]
  have hS := spn_sub (ts.map (toV (q := q)))
  have key : ∀ y : Vec q, Spn (ts.map (toV (q := q))) y → y = mulV (cF m) (toV r) → Spn (ts.map (toV (q := q))) (toV r) := by
    intro y hy ey
    have := hS.mul (cF (q := q) b) hy
    rw [ey] at this
    have e2 : mulV (cF (q := q) b) (mulV (cF m) (toV r)) = toV r := by
      funext i
      show cF b * (cF m * toV r i) = toV r i
      grind
    rwa [e2] at this
  have lz : (List.replicate n (0 : Int)).length = r.length := by rw [List.length_replicate, hr]
  have e0 : toV (q := q) (plusR q (List.replicate n 0) r m) = mulV (cF m) (toV r) := by
    rw [toV_plus lz, toV_noughts, zero_add]
  rcases e with rfl | ⟨x, hx, lx, rfl⟩
  · exact key _ (h q z rfl) e0
  · have l1 : (plusR (q : Int) (List.replicate n 0) r m).length = x.length := by
      rw [plus_len lz, List.length_replicate, lx]
    have h1 := h q z rfl
    unfold Mk at h1
    rw [toV_plus l1, e0] at h1
    refine key _ (hS.less 1 h1 (hx q z rfl)) ?_
    funext i
    show (cF m * toV r i + cF 1 * toV x i) - 1 * toV x i = cF m * toV r i
    rw [cF_one q2]
    grind
end OC

set_option Elab.async false
set_option linter.all false
set_option maxRecDepth 100000
set_option maxHeartbeats 4000000
/-! a display of one pair whose key is a tuple -/
namespace OC
open PySem PySem.Spec PyProof.Rows L2
def tDispT1 (tk tv : TE) : TE := fun σ H Q => ∀ p, H p = none → tk σ (upd H p (.dT [])) fun x H1 => tv σ H1 fun y H2 => H2 p = some (.dT []) ∧ ∃ (b : Addr) (k : List L2.Key), x = .ref b ∧ H2 b = some (.tup (k.map kV)) ∧ Q (.ref p) (upd H2 p (.dT [(k, y)]))
theorem pe_dispT1 {X : Cx} {pos : Pos} {k v : Expr} {tk tv : TE} (hu : X.A.units + 65 < cLine) (hk : PE X k tk) (hv : PE X v tv) : PE X (.Dict [some k] [v] pos) (tDispT1 tk tv) := by
  refine ⟨fun pins s σ H Q I q => ?_⟩
  have hn := I.hok.fresh (Nat.le_refl s.heap.objs.size)
  have I1 := I.laid (a := s.heap.objs.size) (o := .dT []) (h' := s.heap.push { cls := .type "dict", data := .dict #[] }) (t' := s.toks) (fun _ _ q => Heap.get?_push_of_some _ q) (Nat.le_refl _) (dt_empty s.heap I.big)
  have h : PPs X pos [some k] [v] [(tk, tv)] := pps_cons hk hv pps_nil
  rw [arm_eval_Dict, zip_pairTrees [some k] [v] X.env pos rfl rfl]
  have hne : pairTrees [some k] [v] X.env pos ≠ [] := fun z => by
    have := pairTrees_length [some k] [v] X.env pos rfl rfl
    rw [z] at this
    cases this
  have hlen : (pairTrees [some k] [v] X.env pos).length ≤ 15 := by
    rw [pairTrees_length [some k] [v] X.env pos rfl rfl]
    show 1 ≤ 15
    decide
  rw [dictDisplay_pairs _ hne (by omega)]
  refine wpAny_bind (wpAny_standAt (wpAny_bind (wpAny_subDictH (knd := tupleKind (mixKind X.prog X.w)) (show X.A.units < cLine by omega) hlen ?_)))
  let R : List (V × V) → Hp → Prop := fun ps H2 => match ps with
    | [(x, y)] => H2 s.heap.objs.size = some (.dT []) ∧ ∃ (b : Addr) (k : List L2.Key), x = .ref b ∧ H2 b = some (.tup (k.map kV)) ∧ Q (.ref s.heap.objs.size) (upd H2 s.heap.objs.size (.dT [(k, y)]))
    | _ => False
  refine thn (h.run pins _ σ _ R I1 (q _ hn)) fun ws s2 ⟨ps, H2, I2, rel, hR⟩ => ?_
  match ps, rel, hR with
  | [(x, y)], rel, hR =>
    obtain ⟨e, b, kk, rfl, eb, q2⟩ := hR
    cases rel with
    | @cons _ w2 _ ws2 hw t =>
      cases t
      obtain ⟨u, r⟩ := w2
      obtain ⟨ru, rv⟩ := hw
      cases (show u = Value.ref b from ru)
      obtain ⟨z, hd, xs, kt, dd⟩ := dt_of I2.hok e
      cases kt
      refine ⟨[(kk, b, r)], ⟨rfl, rfl, key_of I2.hok eb, trivial⟩, dd, fun h' tk dd' hs => wpAny_pure ⟨.ref s.heap.objs.size, _, ?_, rfl, q2⟩⟩
      obtain ⟨q', es, ep, hq, h2, h3, h4, _, h5⟩ := dd'
      refine d_write I2 (by rw [e]; exact True.intro) hs ⟨q', hq⟩ ⟨(show 1 ≤ sizeLine from sz1000 (by decide)), hd, [(kk, b, r)], .cons ⟨rfl, ?_, rv⟩ .nil, q', es, ep, hq, h2, h3, h4, h5⟩
      rw [upd_ne (ne_of eb e (fun z => nomatch z))]
      exact eb
end OC

set_option Elab.async false
set_option linter.all false
set_option maxRecDepth 100000
set_option maxHeartbeats 4000000
/-! dicts whose keys are rows; all rows that rows make -/
namespace OC
open PySem PySem.Spec PyProof.Rows L2 Lin
/-- a method's rule inside a comprehension: K by its name -/
theorem pe_bmK {X : Cx} {K : PySem.W.Frag} {e : Expr} {T : String} {r : V → List V → Hp → VK → Prop} {to : TE} {t : TA} (hK : X.K = K) (h : PE X e (tBM X.K T r to t)) : PE X e (tBM K T r to t) := hK ▸ h
theorem RowsAt.tk2 {K : PySem.W.Frag} {H H' : Hp} {a : Addr} {rs : List (List Int)} (t : Tk H H') (h : RowsAt K H a rs) : RowsAt K H' a rs := by
  obtain ⟨ws, h1, h2⟩ := h
  exact ⟨ws, t K _ _ h1, dpAll_tk t _ _ (noL_rows rs) h2⟩
theorem units1 {k : Nat} {A : Around} (r : Room k A) : A.units + 1 < cLine := by have := r.un; omega
def keyR (g : List Int) : List L2.Key := g.map Sum.inl
theorem keyR_V (g : List Int) : (keyR g).map kV = g.map V.int := by
  unfold keyR
  rw [List.map_map]
  rfl
theorem keyR_inj {g h : List Int} (e : keyR g = keyR h) : g = h := map_inj_on Sum.inl g h (fun x _ y _ z => Sum.inl.inj z) e
def dictR (gs : List (List Int)) : List (List L2.Key × V) := gs.map fun g => (keyR g, V.bl true)
def addG (gs : List (List Int)) (g : List Int) : List (List Int) := if g ∈ gs then gs else gs ++ [g]
theorem addG_mem {gs : List (List Int)} {g x : List Int} : x ∈ addG gs g ↔ x ∈ gs ∨ x = g := by
  unfold addG
  split
  · rename_i h
    exact ⟨.inl, fun z => z.elim id fun e => e ▸ h⟩
  · simp
theorem addG_len (gs : List (List Int)) (g : List Int) : (addG gs g).length ≤ gs.length + 1 := by
  unfold addG
  split <;> simp
theorem addG_nodup {gs : List (List Int)} {g : List Int} (h : gs.Nodup) : (addG gs g).Nodup := by
  unfold addG
  split
  · exact h
  · rename_i hn
    rw [List.nodup_append]
    exact ⟨h, by simp, fun a ha b hb => by
      have : b = g := by simpa using hb
      subst this
      exact fun z => hn (z ▸ ha)⟩
theorem dictR_len (gs : List (List Int)) : (dictR gs).length = gs.length := List.length_map ..
theorem dictR_any (gs : List (List Int)) (g : List Int) : ((dictR gs).any fun kv => decide (kv.1 = keyR g)) = decide (g ∈ gs) := by
  by_cases h : g ∈ gs
  · rw [decide_eq_true h, List.any_eq_true]
    exact ⟨(keyR g, V.bl true), List.mem_map.mpr ⟨g, h, rfl⟩, decide_eq_true rfl⟩
  · rw [decide_eq_false h, List.any_eq_false]
    intro kv hk
    obtain ⟨x, mx, rfl⟩ := List.mem_map.mp hk
    intro z
    have := keyR_inj (of_decide_eq_true z)
    exact h (this ▸ mx)
theorem put_dictR (gs : List (List Int)) (g : List Int) : putK (dictR gs) (keyR g) (V.bl true) = dictR (addG gs g) := by
  unfold putK
  rw [dictR_any]
  by_cases h : g ∈ gs
  · rw [if_pos (decide_eq_true h)]
    unfold addG
    rw [if_pos h]
    have : ∀ kv ∈ dictR gs, (if kv.1 = keyR g then (kv.1, V.bl true) else kv) = kv := fun kv hk => by
      obtain ⟨x, mx, rfl⟩ := List.mem_map.mp hk
      split <;> rfl
    rw [List.map_congr_left this, List.map_id']
  · rw [if_neg (by rw [decide_eq_false h]; decide)]
    unfold addG
    rw [if_neg h]
    unfold dictR
    rw [List.map_append]
    rfl
theorem val_dictR (gs : List (List Int)) (g : List Int) : (valV (dictR gs) (keyR g)).isSome = decide (g ∈ gs) := by
  unfold valV
  rw [Option.isSome_map, ← dictR_any, Bool.eq_iff_iff, List.find?_isSome, List.any_eq_true]
/-- what rows and one more make -/
theorem in_more {p : Int} (hF : Fld p) {n : Nat} {rs : List (List Int)} {row r : List Int} (hrow : RowsOk p n [row]) (hr : RowsOk p n [r]) (h : InR p (rs ++ [row]) r) : ∃ g m, RowsOk p n [g] ∧ InR p rs g ∧ 0 ≤ m ∧ m < p ∧ r = plusR p g row m := by
  obtain ⟨q, rfl, z, hq⟩ := to_q hF
  have h := h q z rfl
  have lr := hr r List.mem_cons_self
  have lrow := hrow row List.mem_cons_self
  unfold Mk at h
  rw [List.map_append] at h
  obtain ⟨s, c, hs, ex⟩ := spn_more h
  have hp : 0 < (q : Int) := by have := hF.1; omega
  have ll : r.length = row.length := by omega
  have lg : (plusR (q : Int) r row (-(c.val : Int))).length = n := by rw [plus_len ll]; exact lr.1
  have ec : cF (q := q) (c.val : Int) = c := by
    apply fin_ext_int
    rw [cF_val]
    exact Int.emod_eq_of_lt (by omega) (by have := c.isLt; omega)
  have ecn : cF (q := q) (-(c.val : Int)) = - c := by
    have : cF (q := q) (0 - (c.val : Int)) = cF 0 - cF (c.val : Int) := cF_sub _ _
    rw [cF_zero, ec] at this
    rw [show -(c.val : Int) = 0 - (c.val : Int) by omega, this]
    grind
  have tg : toV (q := q) (plusR q r row (-(c.val : Int))) = s := by
    rw [toV_plus ll, ex, ecn]
    funext i
    show (s i + c * toV row i) + -c * toV row i = s i
    grind
  refine ⟨plusR q r row (-(c.val : Int)), c.val, rowsOk_one ⟨lg, plus_ok hp⟩, fun q' z' e' => ?_, by omega, by have := c.isLt; omega, ?_⟩
  · have : q = q' := by omega
    subst this
    unfold Mk
    rw [tg]
    exact hs
  · have l2 : (plusR (q : Int) r row (-(c.val : Int))).length = row.length := by omega
    refine toV_inj (q := q) (by rw [plus_len l2, lg]; exact lr.1) lr.2 (plus_ok hp) ?_
    rw [toV_plus l2, tg, ec]
    exact ex
theorem in_nil {p : Int} (hF : Fld p) {n : Nat} {r : List Int} (hr : RowsOk p n [r]) (h : InR p [] r) : r = List.replicate n 0 := by
  obtain ⟨q, rfl, z, hq⟩ := to_q hF
  have lr := hr r List.mem_cons_self
  obtain ⟨fs, e⟩ := h q z rfl
  refine toV_inj (q := q) (by rw [List.length_replicate]; exact lr.1) lr.2 (row_noughts' (by have := hF.1; omega) n).2 ?_
  rw [e, toV_noughts]
  exact lin_nil' fs
end OC

set_option Elab.async false
set_option linter.all false
set_option maxRecDepth 100000
set_option maxHeartbeats 4000000
/-! lists of rows that stand by themselves; all rows -/
namespace OC
open PySem PySem.Spec PyProof.Rows L2
theorem small10k {n : Nat} (h : n ≤ 10000) : n < sizeLine := by rw [sizeLine_eq]; omega
inductive TAll (H : Hp) : List V → List (List Int) → Prop
  | nil : TAll H [] []
  | cons {b : Addr} {g : List Int} {vs : List V} {gs : List (List Int)} : H b = some (.tup (g.map V.int)) → TAll H vs gs → TAll H (.ref b :: vs) (g :: gs)
theorem TAll.same {H H' : Hp} (s : Same H H') : ∀ {vs : List V} {gs : List (List Int)}, TAll H vs gs → TAll H' vs gs
  | _, _, .nil => .nil
  | _, _, .cons h t => .cons (s _ _ h) (t.same s)
theorem TAll.app {H : Hp} : ∀ {vs us : List V} {gs hs : List (List Int)}, TAll H vs gs → TAll H us hs → TAll H (vs ++ us) (gs ++ hs)
  | _, _, _, _, .nil, h => h
  | _, _, _, _, .cons h t, h2 => .cons h (t.app h2)
theorem TAll.len {H : Hp} : ∀ {vs : List V} {gs : List (List Int)}, TAll H vs gs → vs.length = gs.length
  | _, _, .nil => rfl
  | _, _, .cons _ t => by rw [List.length_cons, List.length_cons, t.len]
theorem TAll.get {H : Hp} : ∀ {vs : List V} {gs : List (List Int)} {i : Nat} {v : V}, TAll H vs gs → vs[i]? = some v → ∃ b g, v = .ref b ∧ gs[i]? = some g ∧ H b = some (.tup (g.map V.int))
  | _, _, _, _, .nil, h => by simp at h
  | _, _, 0, _, .cons (b := b) (g := g) h t, e => by cases e; exact ⟨b, g, rfl, rfl, h⟩
  | _, _, i + 1, v, .cons h t, e => t.get (i := i) (v := v) e
def longR (p : Nat) (g : List Int) : List (List Int) := (List.range p).map fun (x : Nat) => g ++ [(x : Int)]
def allR (p : Nat) : Nat → List (List Int)
  | 0 => [[]]
  | n + 1 => (allR p n).flatMap (longR p)
theorem longR_len (p : Nat) (g : List Int) : (longR p g).length = p := by simp [longR]
theorem flat_len (p : Nat) : ∀ gs : List (List Int), (gs.flatMap (longR p)).length = gs.length * p
  | [] => by simp
  | g :: gs => by rw [List.flatMap_cons, List.length_append, flat_len p gs, longR_len, List.length_cons, Nat.add_mul]; omega
theorem allR_len (p n : Nat) : (allR p n).length = p ^ n := by
  induction n with
  | zero => rfl
  | succ n ih => rw [allR, flat_len, ih, Nat.pow_succ]
theorem allR_ok {p n : Nat} {g : List Int} (h : g ∈ allR p n) : g.length = n ∧ ∀ x ∈ g, 0 ≤ x ∧ x < (p : Int) := by
  induction n generalizing g with
  | zero =>
    have : g = [] := by simpa [allR] using h
    subst this
    exact ⟨rfl, fun x hx => nomatch hx⟩
  | succ n ih =>
    obtain ⟨g', h1, h2⟩ := List.mem_flatMap.mp h
    obtain ⟨y, hy, rfl⟩ := List.mem_map.mp h2
    obtain ⟨l, o⟩ := ih h1
    refine ⟨by rw [List.length_append, l]; rfl, fun x hx => ?_⟩
    rcases List.mem_append.mp hx with hx | hx
    · exact o x hx
    · have : x = (y : Int) := by simpa using hx
      have := List.mem_range.mp hy
      omega
theorem allR_all {p n : Nat} {g : List Int} (l : g.length = n) (o : ∀ x ∈ g, 0 ≤ x ∧ x < (p : Int)) : g ∈ allR p n := by
  induction n generalizing g with
  | zero =>
    have : g = [] := List.length_eq_zero_iff.mp l
    subst this
    exact List.mem_cons_self
  | succ n ih =>
    have hne : g ≠ [] := fun z => by rw [z] at l; cases l
    refine List.mem_flatMap.mpr ⟨g.dropLast, ih (by rw [List.length_dropLast, l]; rfl) fun x hx => o x ((List.dropLast_sublist g).subset hx), List.mem_map.mpr ⟨(g.getLast hne).toNat, List.mem_range.mpr ?_, ?_⟩⟩
    · have := o _ (List.getLast_mem hne)
      omega
    · have := o _ (List.getLast_mem hne)
      rw [show (((g.getLast hne).toNat : Nat) : Int) = g.getLast hne by omega]
      exact List.dropLast_concat_getLast hne
def nzsR (r : List Int) (k : Nat) : List Nat := (List.range k).filter fun i => decide (r.getD i 0 ≠ 0)
theorem nzs_head {r : List Int} (h : fpR r < r.length) : (nzsR r r.length)[0]? = some (fpR r) := by
  rw [← List.head?_eq_getElem?]
  unfold nzsR
  rw [List.head?_filter, List.find?_range_eq_some]
  exact ⟨decide_eq_true (fpR_at h), List.mem_range.mpr h, fun j hj => by
    rw [decide_eq_false (by rw [fpR_low hj]; simp)]
    rfl⟩
theorem TAll.mut {H : Hp} {D : Addr} {xs : List V} {o : HO} (e : H D = some (.lst xs)) : ∀ {vs : List V} {gs : List (List Int)}, TAll H vs gs → TAll (upd H D o) vs gs
  | _, _, .nil => .nil
  | _, _, .cons h t => .cons (by rw [upd_ne (fun z => by rw [z, e] at h; cases h)]; exact h) (t.mut e)
/-- [x for x in xs if t], of rows that stand by themselves -/
theorem lc_filterT {J : It} {G : Hp → Prop} {vs : List V} {gs : List (List Int)} {σ : L2.St} {H : Hp} {Qd : Addr → Hp → Prop} {i : Nat} {sl : List Nat} {tt : TT} (q : List Int → Bool)
    (w : Walk J vs.length G (YAt vs)) (hG : ∀ H', Same H H' → G H') (hD : TAll H vs gs) (hz : vs.length ≤ 10000) (hw : ∀ x : Option V, wipe ((wipe σ sl).set i x) sl = wipe σ sl) (hi : i < (wipe σ sl).length)
    (htt : ∀ (b : Addr) (g : List Int) (H' : Hp) (Q' : Bool → Hp → Prop), g ∈ gs → H' b = some (.tup (g.map V.int)) → Same H H' → (∀ H'', Same H' H'' → Q' (q g) H'') → tt ((wipe σ sl).set i (some (.ref b))) H' Q')
    (hd : ∀ D H' ws, Same H H' → H D = none → H' D = some (.lst ws) → TAll H' ws (gs.filter q) → Qd D H') :
    LcGoal J (gName i) tt (tVar i) sl σ H Qd := by
  intro D nD
  have lv := hD.len
  refine lc_it w (fun k H' => Same H H' ∧ ∃ ws, H' D = some (.lst ws) ∧ ws.length ≤ k ∧ TAll H' ws ((gs.take k).filter q)) ⟨same_mut (Same.refl H) nD, [], upd_same, Nat.le_refl _, .nil⟩ (fun k H' _ hP => hG H' hP.1) (fun k x H1 H2 hk hP hY => ?_) (fun H' hP => ?_)
  · obtain ⟨rfl, e1⟩ := hY
    obtain ⟨sm, ws, eD, lw, rw_⟩ := hP
    obtain ⟨b, g, rfl, gg, hb⟩ := hD.get e1
    refine ⟨hw _, htt b g _ _ (List.mem_of_getElem? gg) (sm _ _ hb) sm fun H'' s2 => ?_⟩
    have eD2 := s2 _ _ eD
    have tk : (gs.take (k + 1)).filter q = (gs.take k).filter q ++ (if q g = true then [g] else []) := by
      rw [List.take_add_one, gg, List.filter_append]
      congr 1
      by_cases hq : q g = true
      · simp [hq]
      · simp [hq]
    by_cases hq : q g = true
    · rw [hq]
      refine iteT ⟨.ref b, by rw [List.getElem?_set_self hi], ws, eD2, small10k (by omega), same_mut (sm.trans s2) nD, ws ++ [.ref b], upd_same, by rw [List.length_append]; simp; omega, ?_⟩
      rw [tk, if_pos hq]
      exact ((rw_.same s2).app (.cons ((sm.trans s2) _ _ hb) .nil)).mut eD2
    · have hq' : q g = false := by simpa using hq
      rw [hq']
      refine iteF ⟨sm.trans s2, ws, eD2, by omega, ?_⟩
      rw [tk, if_neg hq, List.append_nil]
      exact rw_.same s2
  · obtain ⟨sm, ws, eD, lw, rw_⟩ := hP
    rw [List.take_of_length_le (by omega)] at rw_
    exact hd D H' ws sm nD eD rw_
end OC

set_option Elab.async false
set_option linter.all false
set_option maxRecDepth 100000
set_option maxHeartbeats 4000000
/-! min and max of a tuple of ints -/
namespace OC
open PySem PySem.Spec PyProof.Rows L2
def rBestT (K : PySem.W.Frag) : List V → Hp → VK → Prop := fun vs H Q => ∃ (a : Addr) (ns : List Int), vs = [.ref a] ∧ SqT K H a (ns.map V.int) ∧ 0 < ns.length ∧ ∀ m ∈ ns, Q (.int m) H
theorem vals_at : ∀ {ns : List Int} {its : List Value} {i : Nat} {v : Value}, Vals (ns.map V.int) its → its[i]? = some v → ∃ m ∈ ns, RelV (.int m) v
  | [], _, _, _, h, g => by cases h; cases g
  | x :: xs, _, i, v, h, g => by
    cases h with
    | cons r1 r2 =>
      cases i with
      | zero => cases g; exact ⟨x, List.mem_cons_self, r1⟩
      | succ i =>
        obtain ⟨m, mm, r⟩ := vals_at (ns := xs) r2 g
        exact ⟨m, List.mem_cons_of_mem _ mm, r⟩
theorem cr_minT {X : Cx} (hc : X.calm = true) (hu : X.A.units + 65 < cLine) : CallR X (.builtin "min") (rBestT X.K) := by
  intro pins s σ H vs us Q I r h
  obtain ⟨a, ns, rfl, hs, hne, q⟩ := h
  obtain ⟨its, rv, hl, _⟩ := I.tuple hs
  rw [Vals.ref1 r]
  cases ns with
  | nil => exact absurd hne (Nat.lt_irrefl 0)
  | cons x xs =>
    obtain ⟨as, rd, _⟩ := repAll_reads (bad := NB) I ((x :: xs).map PyData.int) _ its (repAll_ints (x :: xs)) rv
    refine PySem.W.min_tuple_datum (α := Int) (vs := its.toArray) (I.ok.hd hc) hl ⟨as, rd⟩ (by rw [show PySem.W.Datum.depth Int = 0 from rfl]; omega) fun i v h' tk hi _ hk => ?_
    rw [List.getElem?_toArray] at hi
    obtain ⟨m, mm, rm⟩ := vals_at rv hi
    exact ⟨.int m, H, I.kept hk, rm, q m mm⟩
theorem cr_maxT {X : Cx} (hc : X.calm = true) (hu : X.A.units + 65 < cLine) : CallR X (.builtin "max") (rBestT X.K) := by
  intro pins s σ H vs us Q I r h
  obtain ⟨a, ns, rfl, hs, hne, q⟩ := h
  obtain ⟨its, rv, hl, _⟩ := I.tuple hs
  rw [Vals.ref1 r]
  cases ns with
  | nil => exact absurd hne (Nat.lt_irrefl 0)
  | cons x xs =>
    obtain ⟨as, rd, _⟩ := repAll_reads (bad := NB) I ((x :: xs).map PyData.int) _ its (repAll_ints (x :: xs)) rv
    refine PySem.W.max_tuple_datum (α := Int) (vs := its.toArray) (I.ok.hd hc) hl ⟨as, rd⟩ (by rw [show PySem.W.Datum.depth Int = 0 from rfl]; omega) fun i v h' tk hi _ hk => ?_
    rw [List.getElem?_toArray] at hi
    obtain ⟨m, mm, rm⟩ := vals_at rv hi
    exact ⟨.int m, H, I.kept hk, rm, q m mm⟩
end OC

set_option Elab.async false
set_option linter.all false
set_option maxRecDepth 100000
set_option maxHeartbeats 4000000
/-! what is left of a row -/
namespace OC
open PySem PySem.Spec PyProof.Rows L2 Lin
theorem left_at {p : Int} (hF : Fld p) {n : Nat} {room : List (List Int)} (h : PFR p n room) {r : List Int} (hr : RowsOk p n [r]) {c : List Int} (hc : c ∈ room) : (leftR p room r).getD (fpR c) 0 = 0 := by
  obtain ⟨q, rfl, z, hF⟩ := to_q hF
  obtain ⟨bs, pf, e, ok, et⟩ := ((isPF_iff hF).mpr h).left hF hr
  refine (toV_eq0 (q := q) (ok _ List.mem_cons_self).2 _).mp ?_
  have m : toV (q := q) c ∈ bs.map (·.2) := by rw [e]; exact List.mem_map_of_mem hc
  obtain ⟨b, mb, eb⟩ := List.mem_map.mp m
  have fj : fpR c = b.1 := fpR_lead (q := q) (h.1 c hc).2 (by rw [← eb]; exact pf.leads (one_ne (q2 hF)) mb)
  rw [et, fj]
  exact Lin.left_at pf _ mb
theorem cF_less {q : Nat} [NeZero q] (h : 2 ≤ q) : cF (q := q) ((q : Int) - 1) = -1 := by
  have e : (q : Int) - 1 = (q : Int) + (0 - 1) := by omega
  have hq : cF (q := q) (q : Int) = 0 := by
    rw [← cF_mod, Int.emod_self, cF_zero]
  rw [e, cF_add, hq, cF_sub, cF_zero, cF_one h]
  grind
theorem left_in {p : Int} (hF : Fld p) {n : Nat} {room : List (List Int)} (h : PFR p n room) {r : List Int} (hr : RowsOk p n [r]) : InR p room (plusR p r (leftR p room r) (p - 1)) := fun q z ep => by
  subst ep
  obtain ⟨bs, pf, e, ok, et⟩ := ((isPF_iff hF).mpr h).left hF hr
  rw [toV_plus (by rw [(hr r List.mem_cons_self).1, (ok _ List.mem_cons_self).1]), et, cF_less (q2 hF)]
  have e1 : addV (toV r) (mulV (-1) (leftV bs (toV r))) = red bs (toV (q := q) r) := by
    funext i
    show toV r i + -1 * (toV r i - red bs (toV r) i) = red bs (toV r) i
    grind
  rw [e1]
  unfold Mk
  rw [← e]
  exact spn_red bs _
theorem noughts_iff {r : List Int} {n : Nat} (h : r.length = n) : r = List.replicate n 0 ↔ ∀ x ∈ r, x = 0 := by
  rw [List.eq_replicate_iff]
  exact ⟨fun z => z.2, fun z => ⟨h, z⟩⟩
theorem left_iff {p : Int} (hF : Fld p) {n : Nat} {room : List (List Int)} (h : PFR p n room) {r : List Int} (hr : RowsOk p n [r]) : decide (leftR p room r = List.replicate n 0) = hasR p n room r := by
  have l := (PFR.left_ok hF h hr _ List.mem_cons_self).1
  have e := PFR.left_has hF h hr
  unfold hasR
  rw [decide_eq_decide, noughts_iff l]
  exact e
theorem left_same {p : Int} (hF : Fld p) {n : Nat} {room : List (List Int)} (h : PFR p n room) {r x : List Int} (hr : RowsOk p n [r]) (hx : RowsOk p n [x]) (hi : InR p room x) (hrx : RowsOk p n [plusR p r x 1]) : leftR p room (plusR p r x 1) = leftR p room r := by
  obtain ⟨q, rfl, z, hF⟩ := to_q hF
  have okr := hr r List.mem_cons_self
  have okx := hx x List.mem_cons_self
  obtain ⟨ok, bs, pf, e⟩ := (isPF_iff hF).mpr h
  have ld : ∀ b ∈ bs, Lead b.2 b.1 := fun b hb => pf.leads (one_ne (q2 hF)) hb
  obtain ⟨a1, a2⟩ := leftR_sim room bs r ok hr e ld
  obtain ⟨b1, b2⟩ := leftR_sim room bs _ ok hrx e ld
  have l1 := a1 _ List.mem_cons_self
  have l2 := b1 _ List.mem_cons_self
  refine toV_inj (q := q) (by rw [l1.1, l2.1]) l2.2 l1.2 ?_
  rw [a2, b2, pf.leftF, pf.leftF, toV_plus (by rw [okr.1, okx.1]), cF_one (q2 hF)]
  have hm : red bs (toV (q := q) x) = toV x := pf.told (by rw [e]; exact hi q z rfl)
  funext i
  have r1 := congrFun (red_add bs (toV (q := q) r) (mulV 1 (toV x))) i
  have r2 := congrFun (red_mul 1 bs (toV (q := q) x)) i
  show (toV r i + 1 * toV x i) - red bs (addV (toV r) (mulV 1 (toV x))) i = toV r i - red bs (toV r) i
  rw [r1]
  show (toV r i + 1 * toV x i) - (red bs (toV r) i + red bs (mulV 1 (toV x)) i) = toV r i - red bs (toV r) i
  rw [r2]
  show (toV r i + 1 * toV x i) - (red bs (toV r) i + 1 * red bs (toV x) i) = toV r i - red bs (toV r) i
  rw [hm]
  grind
end OC
namespace OC
theorem plus_row {p : Int} (hp : 0 < p) {x y : List Int} {n : Nat} (hx : x.length = n) (hy : y.length = n) (m : Int) : (plusR p x y m).length = n ∧ ∀ v ∈ plusR p x y m, 0 ≤ v ∧ v < p := ⟨by rw [plus_len (by rw [hx, hy]), hx], plus_ok hp⟩
end OC
namespace OC
theorem InR.plain {p : Int} (hF : Fld p) {n : Nat} {rs : List (List Int)} (h : RowsOk p n rs) {r : List Int} : InR p (plainR p n rs) r ↔ InR p rs r := ⟨fun hx q z e => by
    subst e
    exact (plainR_mk hF h _).mp (hx q z rfl), fun hx q z e => by
    subst e
    exact (plainR_mk hF h _).mpr (hx q z rfl)⟩
theorem hasR_plain {p : Int} (hF : Fld p) {n : Nat} {rs : List (List Int)} (h : RowsOk p n rs) {r : List Int} (hr : RowsOk p n [r]) : hasR p n (plainR p n rs) r = true ↔ InR p rs r := by
  rw [hasR_in hF (PFR.of_plain hF h).1 hr, InR.plain hF h]
end OC

set_option Elab.async false
set_option linter.all false
set_option maxRecDepth 100000
set_option maxHeartbeats 4000000
/-! rows and lists of them: what laws over rooms share -/
namespace OC
open PySem PySem.Spec PyProof.Rows L2
section
variable {K : PySem.W.Frag} {H : Hp} {bad : Addr → Prop}
theorem repAll_none {ws : List V} {es : List PyData} {q : PyData → Bool} (h : RepAll K H bad ws (es.filter q)) (hq : ∀ d ∈ es, q d = false) : ws = [] := by
  have e : es.filter q = [] := List.filter_eq_nil_iff.mpr fun d hd => by rw [hq d hd]; decide
  rw [e] at h
  cases h
  rfl
theorem filter_all {ws : List V} {es : List PyData} {q : PyData → Bool} (h : RepAll K H bad ws (es.filter fun d => !q d)) : ws.isEmpty = es.all q := by
  have lw := repAll_len h
  cases ws with
  | nil =>
    have l0 : 0 = (es.filter fun d => !q d).length := lw
    refine Eq.symm (List.all_eq_true.mpr fun d hd => ?_)
    have := List.filter_eq_nil_iff.mp (List.length_eq_zero_iff.mp l0.symm) d hd
    simpa using this
  | cons v vs =>
    show false = es.all q
    cases hq : es.all q with
    | false => rfl
    | true =>
      exfalso
      have e : es.filter (fun d => !q d) = [] := List.filter_eq_nil_iff.mpr fun d hd => by
        rw [List.all_eq_true.mp hq d hd]
        decide
      rw [e] at lw
      cases lw
theorem all_rows {q : List Int → Bool} (rs : List (List Int)) : ((rs.map rowD).all fun d => q (intsOf d)) = rs.all q := by
  rw [List.all_map]
  have : (fun d => q (intsOf d)) ∘ rowD = q := by
    funext r
    show q (intsOf (rowD r)) = q r
    rw [ints_row]
  rw [this]
theorem repAll_rows : ∀ {ws : List V} {rs : List (List Int)}, RepAll K H bad ws (rs.map rowD) → DpAll K H ws (rs.map rowD)
  | _, [], h => by cases h; exact .nil
  | _, r :: rs, h => by
    cases h with
    | cons h1 h2 =>
      obtain ⟨l, rfl, hl⟩ := rep_row h1
      exact .cons (row_dp hl) (repAll_rows (rs := rs) h2)
theorem rep_rowsAt {v : V} {rs : List (List Int)} (h : Rep K H bad v (.tuple (rs.map rowD))) : ∃ a, v = .ref a ∧ RowsAt K H a rs := by
  cases h with
  | @tup t ys es hT hy => exact ⟨t, rfl, ys, hT, repAll_rows hy⟩
def rowsD : PyData → List (List Int)
  | .tuple ds => ds.map intsOf
  | _ => []
theorem rowsD_rows (rs : List (List Int)) : rowsD (.tuple (rs.map rowD)) = rs := by
  show (rs.map rowD).map intsOf = rs
  rw [List.map_map]
  have : (intsOf ∘ rowD) = id := by
    funext r
    exact ints_row r
  rw [this, List.map_id]
theorem lv_rows {n : Nat} {p : Int} {rs : List (List Int)} (h : RowsOk p n rs) (hn : n ≤ 1000) (hl : rs.length ≤ 1000) : Lv (Lv (Lv L0)) (.tuple (rs.map rowD)) := by
  refine .inr ⟨_, rfl, by rw [List.length_map]; exact hl, fun x hx => ?_⟩
  obtain ⟨r, mr, rfl⟩ := List.mem_map.mp hx
  exact lv_row r (by rw [(h r mr).1]; exact hn) L0
theorem RowsAt.dp {a : Addr} {rs : List (List Int)} (h : RowsAt K H a rs) : Dp K H (.ref a) (.tuple (rs.map rowD)) := by
  obtain ⟨ws, h1, h2⟩ := h
  exact .tup h1 h2
end
theorem rep_bls {K : PySem.W.Frag} {H : Hp} {bad : Addr → Prop} : ∀ {ws : List V} {bs : List Bool}, RepAll K H bad ws (bs.map PyData.bool) → ws = bs.map V.bl
  | _, [], h => by cases h; rfl
  | _, b :: bs, h => by
    cases h with
    | cons h1 h2 =>
      cases h1
      rw [rep_bls (bs := bs) h2]
      rfl
end OC

set_option Elab.async false
set_option linter.all false
set_option maxRecDepth 100000
set_option maxHeartbeats 4000000
/-! rooms joined and shared -/
namespace OC
open PySem PySem.Spec PyProof.Rows L2 Lin
def joinR (p : Int) (n : Nat) (one other : List (List Int)) : List (List Int) := plainR p n (one ++ other)
def meetR (p : Int) (n : Nat) (one other : List (List Int)) : List (List Int) := acrossR p n (joinR p n (acrossR p n one) (acrossR p n other))
section
variable {p : Int} {n : Nat} {one other : List (List Int)}
theorem join_pf (hF : Fld p) (h1 : RowsOk p n one) (h2 : RowsOk p n other) : PFR p n (joinR p n one other) := PFR.of_plain hF (rowsOk_app h1 h2)
theorem meet_pf (hF : Fld p) : PFR p n (meetR p n one other) := PFR.across hF n _
theorem PFR.ext (hF : Fld p) (h1 : PFR p n one) (h2 : PFR p n other) (a : ∀ r ∈ one, InR p other r) (b : ∀ r ∈ other, InR p one r) : one = other := by
  have := plain_same hF h1.1 h2.1 a b
  rw [h1.2, h2.2] at this
  exact this
theorem meet_mk {q : Nat} [NeZero q] (hF : Fld (q : Int)) (h1 : PFR q n one) (h2 : PFR q n other) (x : Vec q) : Mk q (meetR q n one other) x ↔ Mk q one x ∧ Mk q other x := by
  have i1 := (isPF_iff hF).mpr h1
  have i2 := (isPF_iff hF).mpr h2
  have ja : RowsOk q n (acrossR q n one ++ acrossR q n other) := rowsOk_app (acrossR_pf hF n one).1 (acrossR_pf hF n other).1
  have jp : IsPF q n (joinR q n (acrossR q n one) (acrossR q n other)) := plainR_pf hF ja
  unfold meetR
  rw [acrossR_perp hF jp]
  have e : Mk q (joinR q n (acrossR q n one) (acrossR q n other)) = Mk q (acrossR q n one ++ acrossR q n other) := by
    funext y
    exact propext (plainR_mk hF ja y)
  rw [e, ← perp_across hF i1, ← perp_across hF i2]
  unfold Mk
  rw [List.map_append]
  exact perp_app x
theorem InR.meet (hF : Fld p) (h1 : PFR p n one) (h2 : PFR p n other) (r : List Int) : InR p (meetR p n one other) r ↔ InR p one r ∧ InR p other r := by
  constructor
  · intro h
    exact ⟨fun q z e => by subst e; exact ((meet_mk hF h1 h2 _).mp (h q z rfl)).1, fun q z e => by subst e; exact ((meet_mk hF h1 h2 _).mp (h q z rfl)).2⟩
  · rintro ⟨a, b⟩ q z e
    subst e
    exact (meet_mk hF h1 h2 _).mpr ⟨a q z rfl, b q z rfl⟩
theorem InR.left {ts : List (List Int)} {r : List Int} (h : InR p one r) : InR p (one ++ ts) r := InR.mono (fun x hx => InR.mem (List.mem_append_left _ hx)) h
theorem InR.right {ts : List (List Int)} {r : List Int} (h : InR p ts r) : InR p (one ++ ts) r := InR.mono (fun x hx => InR.mem (List.mem_append_right _ hx)) h
theorem InR.join (hF : Fld p) (h1 : RowsOk p n one) (h2 : RowsOk p n other) {r : List Int} : InR p (joinR p n one other) r ↔ InR p (one ++ other) r := InR.plain hF (rowsOk_app h1 h2)
theorem pf_dim {q : Nat} [NeZero q] (hF : Fld (q : Int)) {room : List (List Int)} (h : PFR q n room) : dim invF n (room.map (toV (q := q))) = room.length := by
  have := plainR_len h.1
  rw [h.2] at this
  exact this.symm
theorem meet_sizes (hF : Fld p) (h1 : PFR p n one) (h2 : PFR p n other) : (joinR p n one other).length + (meetR p n one other).length = one.length + other.length := by
  obtain ⟨q, rfl, z, hF⟩ := to_q hF
  have g := good hF n
  have w1 : Wid n (one.map (toV (q := q))) := rows_wid h1.1
  have w2 : Wid n (other.map (toV (q := q))) := rows_wid h2.1
  have w3 : Wid n ((meetR (q : Int) n one other).map (toV (q := q))) := rows_wid (meet_pf hF).1
  have := g.sizes w1 w2 w3 (meet_mk hF h1 h2)
  rw [pf_dim hF h1, pf_dim hF h2, pf_dim hF (meet_pf hF)] at this
  rw [← this, joinR, plainR_len (rowsOk_app h1.1 h2.1), List.map_append]
  rfl
theorem meet_comm (hF : Fld p) (h1 : PFR p n one) (h2 : PFR p n other) : meetR p n other one = meetR p n one other :=
  PFR.ext hF (meet_pf hF) (meet_pf hF) (fun r hr => (InR.meet hF h1 h2 r).mpr ((InR.meet hF h2 h1 r).mp (InR.mem hr)).symm) fun r hr => (InR.meet hF h2 h1 r).mpr ((InR.meet hF h1 h2 r).mp (InR.mem hr)).symm
theorem join_comm (hF : Fld p) (h1 : RowsOk p n one) (h2 : RowsOk p n other) : joinR p n other one = joinR p n one other :=
  plain_same hF (rowsOk_app h2 h1) (rowsOk_app h1 h2) (fun r hr => InR.mem (by rw [List.mem_append] at hr ⊢; exact hr.symm)) fun r hr => InR.mem (by rw [List.mem_append] at hr ⊢; exact hr.symm)
theorem meet_assoc (hF : Fld p) {two : List (List Int)} (h1 : PFR p n one) (h2 : PFR p n other) (h3 : PFR p n two) : meetR p n (meetR p n one other) two = meetR p n one (meetR p n other two) :=
  PFR.ext hF (meet_pf hF) (meet_pf hF) (fun r hr => by
    rw [InR.meet hF h1 (meet_pf hF), InR.meet hF h2 h3]
    have := (InR.meet hF (meet_pf hF) h3 r).mp (InR.mem hr)
    rw [InR.meet hF h1 h2] at this
    exact ⟨this.1.1, this.1.2, this.2⟩) fun r hr => by
    rw [InR.meet hF (meet_pf hF) h3, InR.meet hF h1 h2]
    have := (InR.meet hF h1 (meet_pf hF) r).mp (InR.mem hr)
    rw [InR.meet hF h2 h3] at this
    exact ⟨⟨this.1, this.2.1⟩, this.2.2⟩
theorem join_assoc (hF : Fld p) {two : List (List Int)} (h1 : RowsOk p n one) (h2 : RowsOk p n other) (h3 : RowsOk p n two) : joinR p n (joinR p n one other) two = joinR p n one (joinR p n other two) := by
  have o12 := rowsOk_app h1 h2
  have o23 := rowsOk_app h2 h3
  have p12 := (join_pf hF h1 h2).1
  have p23 := (join_pf hF h2 h3).1
  refine plain_same hF (rowsOk_app p12 h3) (rowsOk_app h1 p23) (fun r hr => ?_) fun r hr => ?_
  · rcases List.mem_append.mp hr with h | h
    · refine InR.mono (fun x hx => ?_) ((InR.plain hF o12).mp (InR.mem h))
      rcases List.mem_append.mp hx with h | h
      · exact (InR.mem h).left
      · exact ((InR.plain hF o23).mpr (InR.mem h).left).right
    · exact ((InR.plain hF o23).mpr (InR.mem h).right).right
  · rcases List.mem_append.mp hr with h | h
    · exact ((InR.plain hF o12).mpr (InR.mem h).left).left
    · refine InR.mono (fun x hx => ?_) ((InR.plain hF o23).mp (InR.mem h))
      rcases List.mem_append.mp hx with h | h
      · exact ((InR.plain hF o12).mpr (InR.mem h).right).left
      · exact (InR.mem h).right
theorem all_in (hF : Fld p) (h1 : RowsOk p n one) (h2 : RowsOk p n other) : one.all (hasR p n other) = true ↔ ∀ r ∈ one, InR p other r := by
  rw [List.all_eq_true]
  exact ⟨fun h r mr => (hasR_in hF h2 (rowsOk_one (h1 r mr))).mp (h r mr), fun h r mr => (hasR_in hF h2 (rowsOk_one (h1 r mr))).mpr (h r mr)⟩
theorem meet_inside (hF : Fld p) (h1 : PFR p n one) (h2 : PFR p n other) : decide (meetR p n one other = one) = one.all (hasR p n other) := by
  rw [Bool.eq_iff_iff, decide_eq_true_iff, all_in hF h1.1 h2.1]
  constructor
  · intro e r hr
    rw [← e] at hr
    exact ((InR.meet hF h1 h2 r).mp (InR.mem hr)).2
  · intro h
    exact PFR.ext hF (meet_pf hF) h1 (fun r hr => ((InR.meet hF h1 h2 r).mp (InR.mem hr)).1) fun r hr => (InR.meet hF h1 h2 r).mpr ⟨InR.mem hr, h r hr⟩
theorem join_inside (hF : Fld p) (h1 : PFR p n one) (h2 : PFR p n other) : decide (joinR p n one other = other) = one.all (hasR p n other) := by
  rw [Bool.eq_iff_iff, decide_eq_true_iff, all_in hF h1.1 h2.1]
  constructor
  · intro e r hr
    have : InR p (joinR p n one other) r := (InR.join hF h1.1 h2.1).mpr (InR.mem hr).left
    rwa [e] at this
  · intro h
    refine PFR.ext hF (join_pf hF h1.1 h2.1) h2 (fun r hr => ?_) fun r hr => (InR.join hF h1.1 h2.1).mpr (InR.mem hr).right
    refine InR.mono (fun x hx => ?_) ((InR.join hF h1.1 h2.1).mp (InR.mem hr))
    rcases List.mem_append.mp hx with h' | h'
    · exact h x h'
    · exact InR.mem h'
end
theorem PFR.len {p : Int} {n : Nat} {room : List (List Int)} (hF : Fld p) (h : PFR p n room) : room.length ≤ n := by
  have := plainR_lenle hF h.1
  rwa [h.2] at this
end OC

set_option Elab.async false
set_option linter.all false
set_option maxRecDepth 100000
set_option maxHeartbeats 4000000
/-! across: the more a room has, the less -/
namespace OC
open PySem PySem.Spec PyProof.Rows L2 Lin
section
variable {p : Int} {n : Nat} {one other : List (List Int)}
theorem across_less (hF : Fld p) (h1 : PFR p n one) (h2 : PFR p n other) (h : ∀ r ∈ one, InR p other r) : ∀ r ∈ acrossR p n other, InR p (acrossR p n one) r := fun r hr q z e => by
  subst e
  have m := (InR.mem (p := (q : Int)) hr) q z rfl
  rw [acrossR_perp hF ((isPF_iff hF).mpr h2)] at m
  rw [acrossR_perp hF ((isPF_iff hF).mpr h1)]
  exact ⟨m.1, fun x hx => m.2 x (spn_sub_of (fun v hv => by
    obtain ⟨y, my, rfl⟩ := List.mem_map.mp hv
    exact h y my q z rfl) hx)⟩
theorem across_inside (hF : Fld p) (h1 : PFR p n one) (h2 : PFR p n other) : one.all (hasR p n other) = (acrossR p n other).all (hasR p n (acrossR p n one)) := by
  have a1 := PFR.across hF n one
  have a2 := PFR.across hF n other
  rw [Bool.eq_iff_iff, all_in hF h1.1 h2.1, all_in hF a2.1 a1.1]
  constructor
  · exact across_less hF h1 h2
  · intro h
    have := across_less hF a2 a1 h
    rwa [PFR.across_twice hF h1, PFR.across_twice hF h2] at this
theorem meet_across (hF : Fld p) (h1 : PFR p n one) (h2 : PFR p n other) : meetR p n (acrossR p n one) (acrossR p n other) = acrossR p n (joinR p n one other) := by
  unfold meetR
  rw [PFR.across_twice hF h1, PFR.across_twice hF h2]
theorem across_nought (hF : Fld p) (h : PFR p n one) {r w : List Int} (hr : r ∈ one) (hw : w ∈ acrossR p n one) : worthR p r w = 0 := across_worth hF h.1 hr (by rw [h.2]; exact hw)
/-- a row is across from a room just where each row of the room is worth 0 at it -/
theorem across_iff (hF : Fld p) (h : PFR p n one) {w : List Int} (hw : RowsOk p n [w]) : InR p (acrossR p n one) w ↔ ∀ r ∈ one, worthR p r w = 0 := by
  obtain ⟨q, rfl, z, hF⟩ := to_q hF
  have lw := hw w List.mem_cons_self
  constructor
  · intro hi r hr
    have m := hi q z rfl
    rw [acrossR_perp hF ((isPF_iff hF).mpr h)] at m
    rw [worth_zero (q := q) (h.1 r hr).1 lw.1]
    exact m.2 _ (spn_mem (List.mem_map_of_mem hr))
  · intro hi q' z' e
    have : q = q' := by omega
    subst this
    rw [acrossR_perp hF ((isPF_iff hF).mpr h)]
    exact ⟨fun i hi => toV_wid lw.1 i hi, fun x hx => spn_dot (fun r hr => (worth_zero (q := q) (h.1 r hr).1 lw.1).mp (hi r hr)) hx⟩
end
end OC
namespace OC
open PySem PySem.Spec PyProof.Rows L2
theorem code_snoc (B x : Int) : ∀ g : List Int, TS.code B (g ++ [x]) = TS.code B g * B + x
  | [] => by
    show x * B ^ 0 + 0 = 0 * B + x
    rw [Int.pow_zero]
    omega
  | d :: r => by
    show d * B ^ (r ++ [x]).length + TS.code B (r ++ [x]) = (d * B ^ r.length + TS.code B r) * B + x
    rw [code_snoc B x r, List.length_append, show r.length + [x].length = r.length + 1 from rfl, Int.pow_succ, Int.add_mul, Int.mul_assoc]
    omega
end OC
namespace OC
open PySem PySem.Spec PyProof.Rows L2
/-- all rows rise -/
theorem allR_rise (p : Nat) : ∀ n : Nat, (allR p n).Pairwise (fun x y => TS.code p x < TS.code p y)
  | 0 => List.pairwise_singleton _ _
  | n + 1 => by
    show ((allR p n).flatMap (longR p)).Pairwise _
    rw [List.pairwise_flatMap]
    refine ⟨fun g _ => ?_, (allR_rise p n).imp fun {g h} hgh x hx y hy => ?_⟩
    · unfold longR
      rw [List.pairwise_map]
      refine List.pairwise_lt_range.imp fun {a b} hab => ?_
      rw [code_snoc, code_snoc]
      omega
    · obtain ⟨a, ha, rfl⟩ := List.mem_map.mp hx
      obtain ⟨b, hb, rfl⟩ := List.mem_map.mp hy
      have ha := List.mem_range.mp ha
      rw [code_snoc, code_snoc]
      have h1 : (TS.code p g + 1) * (p : Int) ≤ TS.code p h * (p : Int) := Int.mul_le_mul_of_nonneg_right (by omega) (by omega)
      rw [Int.add_mul] at h1
      omega
theorem allR_nodup (p n : Nat) : (allR p n).Nodup := (allR_rise p n).imp fun {a b} h e => by
  subst e
  omega
end OC

set_option Elab.async false
set_option linter.all false
set_option maxRecDepth 100000
set_option maxHeartbeats 4000000
/-! sorted of a list of rows, and of a dict whose keys are rows -/
namespace OC
open PySem PySem.Spec PyProof.Rows L2 SrtO
theorem TAll.perm {H : Hp} {xs ys : List V} (h : ys.Perm xs) : ∀ {gs : List (List Int)}, TAll H xs gs → ∃ hs, TAll H ys hs ∧ hs.Perm gs := by
  induction h with
  | nil => exact fun t => ⟨_, t, .refl _⟩
  | cons x _ ih =>
    intro gs t
    cases t with
    | cons h1 t1 =>
      obtain ⟨hs, a, b⟩ := ih t1
      exact ⟨_, .cons h1 a, .cons _ b⟩
  | swap x y l =>
    intro gs t
    cases t with
    | cons h1 t1 =>
      cases t1 with
      | cons h2 t2 => exact ⟨_, .cons h2 (.cons h1 t2), .swap _ _ _⟩
  | trans _ _ i1 i2 =>
    intro gs t
    obtain ⟨hs, a, b⟩ := i2 t
    obtain ⟨ks, c, d⟩ := i1 a
    exact ⟨ks, c, d.trans b⟩
theorem TAll.mem {H : Hp} : ∀ {xs : List V} {gs : List (List Int)}, TAll H xs gs → ∀ x ∈ xs, ∃ b g, x = .ref b ∧ g ∈ gs ∧ H b = some (.tup (g.map V.int))
  | _, _, .nil, x, hx => (nomatch hx)
  | _, _, .cons (b := b) (g := g) h t, x, hx => by
    rcases List.mem_cons.mp hx with rfl | hx
    · exact ⟨b, g, rfl, List.mem_cons_self, h⟩
    · obtain ⟨b', g', e, m, h'⟩ := t.mem x hx
      exact ⟨b', g', e, List.mem_cons_of_mem _ m, h'⟩
theorem TAll.rmem {H : Hp} : ∀ {xs : List V} {gs : List (List Int)}, TAll H xs gs → ∀ g ∈ gs, ∃ b, V.ref b ∈ xs ∧ H b = some (.tup (g.map V.int))
  | _, _, .nil, x, hx => (nomatch hx)
  | _, _, .cons (b := b) (g := g) h t, x, hx => by
    rcases List.mem_cons.mp hx with rfl | hx
    · exact ⟨b, List.mem_cons_self, h⟩
    · obtain ⟨b', m, h'⟩ := t.rmem x hx
      exact ⟨b', List.mem_cons_of_mem _ m, h'⟩
theorem TAll.pairs {K : PySem.W.Frag} {H : Hp} {R : List Int → List Int → Prop} : ∀ {xs : List V} {gs : List (List Int)}, TAll H xs gs → xs.Pairwise (fun x y => ∀ n m, TupI K H x n → TupI K H y m → R n m) → gs.Pairwise R
  | _, _, .nil, _ => .nil
  | _, _, .cons (b := b) (g := g) h t, hp => by
    rw [List.pairwise_cons] at hp ⊢
    refine ⟨fun y hy => ?_, t.pairs hp.2⟩
    obtain ⟨b', m, h'⟩ := t.rmem y hy
    exact hp.1 _ m g y ⟨b, rfl, .inl (.inl h)⟩ ⟨b', rfl, .inl (.inl h')⟩
/-- sorted told of rows: the same rows, rising -/
def SortQ (H : Hp) (gs : List (List Int)) (B : Int) (Q : VK) : Prop := ∀ (ys : List V) (hs : List (List Int)) (z : Addr), TAll H ys hs → hs.Perm gs → hs.Pairwise (fun x y => TS.code B x ≤ TS.code B y) → H z = none → Q (.ref z) (upd H z (.lst ys))
def rSortL (K : PySem.W.Frag) : List V → Hp → VK → Prop := fun vs H Q => ∃ (a : Addr) (xs : List V) (gs : List (List Int)) (d : Nat) (B : Int), vs = [V.ref a] ∧ 1 ≤ d ∧ SqL K H a xs ∧ TAll H xs gs ∧ (∀ g ∈ gs, g.length = d ∧ TS.Bd B g) ∧ SortQ H gs B Q
section
variable {X : Cx} {pins : List (Addr × Obj)} {s : Shared} {σ : L2.St} {H : Hp}
theorem tups_raw (I : Inv X pins σ H s) {its : List Value} {xs : List V} {gs : List (List Int)} {d : Nat} {B : Int} (e1 : xs = its.map bkV) (e2 : ∀ u ∈ its, ∃ a, u = Value.ref a) (tg : TAll H xs gs) (hb : ∀ g ∈ gs, g.length = d ∧ TS.Bd B g) : TS.TupsOk s.heap d B its := fun v hv => by
  obtain ⟨t, rfl⟩ := e2 v hv
  have hm : V.ref t ∈ xs := by
    rw [e1]
    exact List.mem_map.mpr ⟨_, hv, rfl⟩
  obtain ⟨b, g, e, mg, hg⟩ := tg.mem _ hm
  cases e
  obtain ⟨l, bd⟩ := hb g mg
  exact ⟨g, tupI_raw I (.inl (.inl hg)), l, bd⟩
theorem sorted_end (I : Inv X pins σ H s) {its out : List Value} {xs : List V} {gs : List (List Int)} {d : Nat} {B : Int} (e1 : xs = its.map bkV) (e2 : ∀ u ∈ its, ∃ a, u = Value.ref a) (tg : TAll H xs gs) (o1 : Srtd (ltT s.heap B) out) (pm : out.Perm its) :
    ∃ hs, TAll H (out.map bkV) hs ∧ hs.Perm gs ∧ hs.Pairwise (fun x y => TS.code B x ≤ TS.code B y) := by
  have pv : (out.map bkV).Perm xs := by
    rw [e1]
    exact pm.map bkV
  obtain ⟨hs, th, ph⟩ := tg.perm pv
  refine ⟨hs, th, ph, th.pairs (K := X.K) ?_⟩
  rw [List.pairwise_map]
  refine o1.imp fun {u v} huv n m hn hm => ?_
  obtain ⟨t, et, ht⟩ := hn
  obtain ⟨t', et', ht'⟩ := hm
  have i1 : TS.intsOf s.heap u = n := by
    rw [bkV_ref et]
    exact (tupI_raw I ht).ints
  have i2 : TS.intsOf s.heap v = m := by
    rw [bkV_ref et']
    exact (tupI_raw I ht').ints
  have z := of_decide_eq_false huv
  rw [i1, i2] at z
  omega
end
theorem cr_sortL {X : Cx} : CallR X (.builtin "sorted") (rSortL X.K) := by
  intro pins s σ H vs us Q I r h
  obtain ⟨a, xs, gs, d, B, rfl, hd, hs, tg, hb, q⟩ := h
  rw [Vals.ref1 r]
  obtain ⟨its, rv, hl, hz⟩ := I.list hs
  obtain ⟨e1, e2⟩ := bkV_refs rv fun x m => by
    obtain ⟨b, g, e, _⟩ := tg.mem x m
    exact ⟨b, e⟩
  have tups := tups_raw I e1 e2 tg hb
  refine SrtO.sorted_ord (swo_T s.heap B) hl.isList (by rw [← rv.length]; exact hz) (fun h2 h1 a' ha' kk => ?_) fun out o1 o2 => ?_
  · have keep : ∀ b o, s.heap.get? b = some o → o.cls = .type "tuple" → h1.get? b = some o := fun b o e _ => (kk b o e).2
    refine tups_sortable (s := { s with heap := h1 }) hd h2 (tups.keeps keep) (fun v hv => ?_) fun o e => ?_
    · obtain ⟨ns, tp, _⟩ := tups v hv
      rw [tp.ints, (tp.keeps keep).ints]
    · have e' : some o = some (seqObj "list" its.toArray 0) := e.symm.trans ha'
      cases e'
      intro c
      exact absurd (Value.type.inj c) (by decide)
  · obtain ⟨ep, he'⟩ := PyProof.Rows.sortedAll_at s.heap its out.toArray
    obtain ⟨hs', th, ph, pw⟩ := sorted_end (d := d) I e1 e2 tg o1 o2.perm
    have lz : (out.map bkV).length ≤ sizeLine := by
      rw [List.length_map, o2.perm.length_eq, ← rv.length]
      exact hz
    exact ⟨.ref _, upd H (s.heap.objs.size + 1) (.lst (out.map bkV)), I.laid (t' := s.toks) (fun _ _ => PyProof.Rows.sortedAll_old) (Nat.le_succ _) ⟨lz, out, ep, bkV_vals fun u hu => e2 u (o2.perm.mem_iff.mp hu), he'⟩, rfl, q _ _ _ th ph pw (I.hok.fresh (Nat.le_succ _))⟩
theorem keys_tall {H : Hp} : ∀ {gs : List (List Int)} {bs : List Addr}, IsKeys H (dictR gs) bs → TAll H (bs.map V.ref) gs
  | [], bs, h => by
    cases h
    exact .nil
  | g :: gs, bs, h => by
    cases h with
    | cons h1 h2 => exact .cons (by rw [← keyR_V]; exact h1) (keys_tall h2)
def rSortD : List V → Hp → VK → Prop := fun vs H Q => ∃ (a : Addr) (gs : List (List Int)) (d : Nat) (B : Int), vs = [V.ref a] ∧ 1 ≤ d ∧ H a = some (.dT (dictR gs)) ∧ (∀ g ∈ gs, g.length = d ∧ TS.Bd B g) ∧ SortQ H gs B Q
theorem cr_sortD {X : Cx} (hc : X.calm = true) : CallR X (.builtin "sorted") rSortD := by
  intro pins s σ H vs us Q I r h
  obtain ⟨a, gs, d, B, rfl, hd, ha, hb, q⟩ := h
  rw [Vals.ref1 r]
  obtain ⟨z, lo, ks, pr, o, es, ep, ho, hx, hdt, he, hn⟩ := (show ObjOk X.prog X.w H s.heap a (.dT (dictR gs)) from I.hok a _ ha)
  have l1 : es.size = ks.length := size_of_entries he
  have l2 : (dictR gs).length = ks.length := Paired.length pr
  have tg := keys_tall (isKeys_of pr)
  refine Calls.call_function_entry PyProof.Rows.kind_sorted PyProof.Rows.plain_sorted PyProof.Rows.entry_sorted (PyProof.Rows.args_sorted1 _) ?_
  unfold Builtin.«sorted»
  refine wpAny_bind (m := checkCount "sorted" 1 1 _) (wpAny_pure (wpAny_bind (PySem.W.kdu_collect (A := X.A.in1) (kdl_raw lo hx hdt) (I.ok.hd hc) ho (by omega) fun h' tk acc kp it => ?_)))
  have lacc : acc.toList.length = ks.length := by rw [Array.length_toList, it.1, l1]
  have ea : acc.toList = (ks.map fun x => x.2.1).map Value.ref := by
    refine List.ext_getElem? fun j => ?_
    rw [List.map_map, List.getElem?_map]
    cases hj : acc.toList[j]? with
    | none =>
      rw [List.getElem?_eq_none (show ks.length ≤ j by have := List.getElem?_eq_none_iff.mp hj; omega)]
      rfl
    | some v =>
      obtain ⟨en, hen, hv⟩ := it.2 j v (by rw [← Array.getElem?_toList]; exact hj)
      have qe := entry_at he j
      rw [hen] at qe
      cases hk : ks[j]? with
      | none =>
        rw [hk] at qe
        cases qe
      | some b =>
        rw [hk] at qe
        cases qe
        exact congrArg some hv
  have I1 : Inv X pins σ H { s with heap := h', toks := tk } := I.kept kp
  have hz : acc.toList.length ≤ sizeLine := by omega
  refine wpAny_bind (wpAny_newList ?_ hz)
  have hoL : (h'.push (seqObj "list" acc.toList.toArray 0)).get? h'.objs.size = some (seqObj "list" acc.toList.toArray 0) := Heap.get?_push_size _ rfl
  have e1 : (ks.map fun x => x.2.1).map V.ref = acc.toList.map bkV := by
    rw [ea]
    simp only [List.map_map]
    rfl
  have e2 : ∀ u ∈ acc.toList, ∃ a, u = Value.ref a := fun u hu => by
    rw [ea] at hu
    obtain ⟨b, _, rfl⟩ := List.mem_map.mp hu
    exact ⟨b, rfl⟩
  have tups : TS.TupsOk h' d B acc.toList := tups_raw I1 e1 e2 tg hb
  have keep : ∀ b o, h'.get? b = some o → o.cls = .type "tuple" → (h'.push (seqObj "list" acc.toList.toArray 0)).get? b = some o := fun b o e _ => Heap.get?_push_of_some _ e
  refine wpAny_bind (wpAny_holding (wpAny_call_entry (s := { s with heap := h'.push (seqObj "list" acc.toList.toArray 0), toks := tk }) PyProof.Rows.slot_list_sort ⟨_, hoL, rfl⟩ PyProof.Rows.entry_list_sort
    (list_sort_ord (swo_T h' B) hoL hz (fun h2 => tups_sortable hd h2 (tups.keeps keep) (fun v hv => ?_) fun o e => ?_) fun out o1 o2 => ⟨_, rfl, ?_⟩) (PyProof.Rows.args_list_sort _)))
  · obtain ⟨ns, tp, _⟩ := tups v hv
    rw [tp.ints]
    exact (tp.keeps keep).ints.symm
  · have e' : some o = some (seqObj "list" acc.toList.toArray 0) := e.symm.trans hoL
    cases e'
    intro c
    exact absurd (Value.type.inj c) (by decide)
  · obtain ⟨ep', he'⟩ := PyProof.Rows.sortedHeap_at (vs := acc.toList) (out := out.toArray) hoL
    obtain ⟨hs', th, ph, pw⟩ := sorted_end (d := d) I1 e1 e2 tg o1 o2.perm
    have lz : (out.map bkV).length ≤ sizeLine := by
      rw [List.length_map, o2.perm.length_eq]
      exact hz
    refine wpAny_pure ⟨_, rfl, .ref h'.objs.size, upd H h'.objs.size (.lst (out.map bkV)), I1.laid (t' := tk) (fun b u e => ?_) (Nat.le_refl _) ⟨lz, out, ep', bkV_vals fun u hu => e2 u (o2.perm.mem_iff.mp hu), he'⟩, rfl, q _ _ _ th ph pw (I1.hok.fresh (Nat.le_refl _))⟩
    have hlt : b < h'.objs.size := Heap.lt_size e
    rw [PyProof.Rows.sortedHeap_old (Nat.ne_of_lt hlt) (by rw [size_push']; exact Nat.lt_succ_of_lt hlt)]
    exact Heap.get?_push_of_some _ e
/-- what an expression tells is locked from there on -/
def tLk (t : TE) : TE := fun σ H Q => t σ H fun x H1 => ∃ d u, x = .ref d ∧ H1 d = some u ∧ Mut (some u) ∧ ∀ od, Q x (upd H1 d (.frz od u))
theorem pe_lk {X : Cx} {e : Expr} {t : TE} (h : PE X e t) : PE X e (tLk t) := ⟨fun pins s σ H Q I hw => by
  refine thn (h.run pins s σ H _ I hw) fun v s1 ⟨x, H1, I1, r, d, u, ex, hd, mu, q⟩ => ?_
  obtain ⟨od, I2⟩ := I1.lock hd mu
  exact ⟨x, _, I2, r, q od⟩⟩
theorem pi_keysF {X : Cx} {tg e : Expr} {t : TE} (h : PE X e t) : PI X tg e (iKeys (tLk t)) := pi_keys (pe_lk h)
/-- [x for x in d if t], d a dict whose keys are rows -/
theorem lc_filterK {d : Addr} {o : Obj} {gs : List (List Int)} {σ : L2.St} {H : Hp} {Qd : Addr → Hp → Prop} {i : Nat} {sl : List Nat} {tt : TT} (q : List Int → Bool)
    (hF : H d = some (.frz o (.dT (dictR gs)))) (hz : gs.length ≤ 10000) (hw : ∀ x : Option V, wipe ((wipe σ sl).set i x) sl = wipe σ sl) (hi : i < (wipe σ sl).length)
    (htt : ∀ (b : Addr) (g : List Int) (H' : Hp) (Q' : Bool → Hp → Prop), g ∈ gs → H' b = some (.tup (g.map V.int)) → Same H H' → (∀ H'', Same H' H'' → Q' (q g) H'') → tt ((wipe σ sl).set i (some (.ref b))) H' Q')
    (hd : ∀ D H' ws, Same H H' → H D = none → H' D = some (.lst ws) → TAll H' ws (gs.filter q) → Qd D H') :
    LcGoal (Itkt d o (dictR gs)) (gName i) tt (tVar i) sl σ H Qd := by
  intro D nD
  have neD : d ≠ D := fun z => by rw [z, nD] at hF; cases hF
  refine lc_it walk_keysT (fun k H' => Same H H' ∧ ∃ ws, H' D = some (.lst ws) ∧ ws.length ≤ k ∧ TAll H' ws ((gs.take k).filter q)) ⟨same_mut (Same.refl H) nD, [], upd_same, Nat.le_refl _, .nil⟩ (fun k H' _ hP => hP.1 _ _ hF) (fun k x H1 H2 hk hP hY => ?_) (fun H' hP => ?_)
  · obtain ⟨rfl, kk, vv, b, gk, rfl, hb⟩ := hY
    obtain ⟨sm, ws, eD, lw, rw_⟩ := hP
    rw [dictR, List.getElem?_map] at gk
    cases gg : gs[k]? with
    | none => rw [gg] at gk; cases gk
    | some g =>
      rw [gg] at gk
      cases gk
      rw [keyR_V] at hb
      have hk' : k < gs.length := (List.getElem?_eq_some_iff.mp gg).1
      refine ⟨hw _, htt b g _ _ (List.mem_of_getElem? gg) hb sm fun H'' s2 => ?_⟩
      have eD2 := s2 _ _ eD
      have tk : (gs.take (k + 1)).filter q = (gs.take k).filter q ++ (if q g = true then [g] else []) := by
        rw [List.take_add_one, gg, List.filter_append]
        congr 1
        by_cases hq : q g = true
        · simp [hq]
        · simp [hq]
      by_cases hq : q g = true
      · rw [hq]
        refine iteT ⟨.ref b, by rw [List.getElem?_set_self hi], ws, eD2, small10k (by omega), same_mut (sm.trans s2) nD, ws ++ [.ref b], upd_same, by rw [List.length_append]; simp; omega, ?_⟩
        rw [tk, if_pos hq]
        exact ((rw_.same s2).app (.cons (s2 _ _ hb) .nil)).mut eD2
      · have hq' : q g = false := by simpa using hq
        rw [hq']
        refine iteF ⟨sm.trans s2, ws, eD2, by omega, ?_⟩
        rw [tk, if_neg hq, List.append_nil]
        exact rw_.same s2
  · obtain ⟨sm, ws, eD, lw, rw_⟩ := hP
    rw [dictR_len, List.take_length] at rw_
    exact hd D H' ws sm nD eD rw_
theorem code_inj {B : Int} : ∀ {x y : List Int}, x.length = y.length → TS.Bd B x → TS.Bd B y → TS.code B x = TS.code B y → x = y
  | [], [], _, _, _, _ => rfl
  | [], _ :: _, h, _, _, _ => by cases h
  | _ :: _, [], h, _, _, _ => by cases h
  | d :: r, e :: q, h, h1, h2, hc => by
    have hl : r.length = q.length := Nat.succ.inj h
    rcases Int.lt_trichotomy d e with c | c | c
    · have := TS.code_lt hl h1.tail h2.tail c
      omega
    · subst c
      have hc : d * B ^ r.length + TS.code B r = d * B ^ q.length + TS.code B q := hc
      rw [hl] at hc
      rw [code_inj hl h1.tail h2.tail (by omega)]
    · have := TS.code_lt hl.symm h2.tail h1.tail c
      omega
/-- two lists of the same rows, both rising, are one -/
theorem rising_one {n : Nat} {B : Int} {hs ks : List (List Int)} (hb : ∀ g ∈ hs, g.length = n ∧ TS.Bd B g) (h : hs.Pairwise (fun x y => TS.code B x ≤ TS.code B y)) (k : ks.Pairwise (fun x y => TS.code B x ≤ TS.code B y)) (pm : hs.Perm ks) : hs = ks := by
  refine pm.eq_of_pairwise (fun a b ha hb' h1 h2 => ?_) h k
  obtain ⟨la, ba⟩ := hb a ha
  obtain ⟨lb, bb⟩ := hb b (pm.mem_iff.mpr hb')
  exact code_inj (by rw [la, lb]) ba bb (by omega)
theorem TAll.dp {K : PySem.W.Frag} {H : Hp} : ∀ {vs : List V} {gs : List (List Int)}, TAll H vs gs → DpAll K H vs (gs.map rowD)
  | _, _, .nil => .nil
  | _, _, .cons h t => .cons (row_dp (.inl (.inl h))) t.dp
theorem eqv_lrows (hs : List (List Int)) : PyData.eqv (.list (hs.map rowD)) (.list (hs.map rowD)) = true := by
  have := eqvAll_rows hs hs
  rw [decide_eq_true rfl] at this
  exact this
end OC

set_option Elab.async false
set_option linter.all false
set_option maxRecDepth 100000
set_option maxHeartbeats 4000000
/-! rows of a room by their numbers; worlds alike -/
namespace Lin
section
variable {p : Nat} [NeZero p]
theorem lin_nought : ∀ (fs : List (Fin p)) (bs : List (Nat × Vec p)) (i : Nat), (∀ b ∈ bs, b.2 i = 0) → lin fs (bs.map (·.2)) i = 0
  | [], bs, i, _ => by rw [lin_nil]; rfl
  | _ :: _, [], _, _ => rfl
  | f :: fs, b :: bs, i, h => by
    show f * b.2 i + lin fs (bs.map (·.2)) i = 0
    rw [h b List.mem_cons_self, lin_nought fs bs i fun c hc => h c (List.mem_cons_of_mem _ hc)]
    grind
theorem lin_first {n : Nat} {B : List (Nat × Vec p)} (h : PF n B) : ∀ (bs : List (Nat × Vec p)) (fs : List (Fin p)), (∀ b ∈ bs, b ∈ B) → bs.Pairwise (fun a b => a.1 < b.1) → ∀ (j : Nat) (b : Nat × Vec p), bs[j]? = some b → lin fs (bs.map (·.2)) b.1 = fs.getD j 0
  | [], _, _, _, _, _, e => by cases e
  | c :: bs, [], _, _, j, b, _ => by
    rw [lin_nil]
    rfl
  | c :: bs, f :: fs, hB, hp, 0, b, e => by
    cases e
    rw [List.pairwise_cons] at hp
    show f * c.2 c.1 + lin fs (bs.map (·.2)) c.1 = f
    rw [h.one c (hB c List.mem_cons_self), lin_nought fs bs c.1 fun d hd => h.off d (hB d (List.mem_cons_of_mem _ hd)) c (hB c List.mem_cons_self) (by have := hp.1 d hd; omega)]
    grind
  | c :: bs, f :: fs, hB, hp, j + 1, b, e => by
    have e : bs[j]? = some b := e
    rw [List.pairwise_cons] at hp
    have mb := List.mem_of_getElem? e
    show f * c.2 b.1 + lin fs (bs.map (·.2)) b.1 = fs.getD j 0
    rw [lin_first h bs fs (fun d hd => hB d (List.mem_cons_of_mem _ hd)) hp.2 j b e, h.off c (hB c List.mem_cons_self) b (hB b (List.mem_cons_of_mem _ mb)) (by have := hp.1 b mb; omega)]
    grind
theorem red_lin : ∀ (bs : List (Nat × Vec p)) (x : Vec p), red bs x = lin (bs.map fun b => x b.1) (bs.map (·.2))
  | [], _ => rfl
  | b :: bs, x => by
    show addV (mulV (x b.1) b.2) (red bs x) = addV (mulV (x b.1) b.2) (lin (bs.map fun b => x b.1) (bs.map (·.2)))
    rw [red_lin bs x]
end
end Lin
namespace OC
open PySem PySem.Spec PyProof.Rows L2 Lin
def combR (p : Int) (n : Nat) (room : List (List Int)) (fs : List Int) : List Int := madeR p (List.replicate n 0) (room.zip fs)
section
variable {p : Int} {n : Nat} {room : List (List Int)} {fs : List Int}
theorem made_bd (hp : 0 < p) : ∀ (l : List (List Int × Int)) (z : List Int), (∀ x ∈ z, 0 ≤ x ∧ x < p) → ∀ x ∈ madeR p z l, 0 ≤ x ∧ x < p
  | [], _, h => h
  | _ :: l, _, _ => made_bd hp l _ (plus_ok hp)
theorem comb_ok (hF : Fld p) (h : PFR p n room) : RowsOk p n [combR p n room fs] := by
  have h2 := hF.1
  exact rowsOk_one ⟨made_len p n _ _ List.length_replicate fun x hx => (h.1 x.1 (List.of_mem_zip hx).1).1, made_bd (by omega) _ _ (row_noughts' (by omega) n).2⟩
theorem comb_toV {q : Nat} [NeZero q] (h : RowsOk q n room) (hl : fs.length = room.length) : toV (q := q) (combR q n room fs) = lin (fs.map (cF (q := q))) (room.map (toV (q := q))) := by
  unfold combR
  rw [toV_made room fs _ List.length_replicate (fun r hr => (h r hr).1) hl, toV_noughts, Lin.zero_add]
theorem comb_in (h : PFR p n room) (hl : fs.length = room.length) : InR p room (combR p n room fs) := fun q z e => by
  subst e
  rw [comb_toV h.1 hl]
  exact ⟨_, rfl⟩
theorem comb_at (hF : Fld p) (h : PFR p n room) (hl : fs.length = room.length) (hb : ∀ f ∈ fs, 0 ≤ f ∧ f < p) {j : Nat} {b : List Int} (hj : room[j]? = some b) : (combR p n room fs).getD (fpR b) 0 = fs.getD j 0 := by
  have okc := comb_ok (fs := fs) hF h _ List.mem_cons_self
  obtain ⟨q, rfl, z, hF⟩ := to_q hF
  obtain ⟨ok, bs, pf, e⟩ := (isPF_iff hF).mpr h
  have ld : ∀ b ∈ bs, Lead b.2 b.1 := fun b hb => pf.leads (one_ne (q2 hF)) hb
  have fe := firsts_eq room bs ok e ld
  refine cF_inj (q := q) (getD_lt q_pos okc.2 _) (getD_lt q_pos hb j) ?_
  show toV (q := q) (combR q n room fs) (fpR b) = _
  rw [comb_toV h.1 hl, ← e]
  have hjl : j < bs.length := by
    have := (List.getElem?_eq_some_iff.mp hj).1
    have l2 := congrArg List.length e
    rw [List.length_map, List.length_map] at l2
    omega
  have g : bs[j]? = some bs[j] := List.getElem?_eq_getElem hjl
  have f1 : fpR b = bs[j].1 := by
    have x1 : (room.map fpR)[j]? = some (fpR b) := by rw [List.getElem?_map, hj]; rfl
    rw [fe, List.getElem?_map, g] at x1
    exact (Option.some.inj x1).symm
  rw [f1, lin_first pf bs _ (fun _ h => h) pf.inc j bs[j] g]
  rw [List.getD_eq_getElem?_getD, List.getD_eq_getElem?_getD, List.getElem?_map]
  cases fs[j]? with
  | none => exact cF_zero.symm
  | some f => rfl
theorem comb_told (hF : Fld p) (h : PFR p n room) {r : List Int} (hr : RowsOk p n [r]) (hi : InR p room r) : combR p n room (room.map fun b => r.getD (fpR b) 0) = r := by
  have okc := comb_ok (fs := room.map fun b => r.getD (fpR b) 0) hF h _ List.mem_cons_self
  have okr := hr r List.mem_cons_self
  obtain ⟨q, rfl, z, hF⟩ := to_q hF
  obtain ⟨ok, bs, pf, e⟩ := (isPF_iff hF).mpr h
  have ld : ∀ b ∈ bs, Lead b.2 b.1 := fun b hb => pf.leads (one_ne (q2 hF)) hb
  have fe := firsts_eq room bs ok e ld
  refine toV_inj (q := q) (by rw [okc.1, okr.1]) okc.2 okr.2 ?_
  rw [comb_toV h.1 (List.length_map _), ← e]
  have ef : (room.map fun b => r.getD (fpR b) 0).map (cF (q := q)) = bs.map fun b => toV (q := q) r b.1 := by
    have : (room.map fun b => r.getD (fpR b) 0) = (room.map fpR).map fun i => r.getD i 0 := by rw [List.map_map]; rfl
    rw [this, fe, List.map_map, List.map_map]
    rfl
  rw [ef, ← red_lin]
  exact pf.told (by rw [e]; exact hi q z rfl)
end
/-! ### figures -/
def figL (p : Int) (s : Nat) (N : Int) : List Int := (List.range s).map fun i => N / p ^ i % p
def figR (p : Int) (s : Nat) (N : Int) : List Int := (figL p s N).reverse
theorem figL_succ {p : Int} (hp : 0 < p) (s : Nat) (N : Int) : figL p (s + 1) N = (N % p) :: figL p s (N / p) := by
  unfold figL
  rw [List.range_succ_eq_map, List.map_cons, List.map_map]
  congr 1
  · rw [Int.pow_zero, Int.ediv_one]
  · apply List.map_congr_left
    intro i _
    show N / p ^ (i + 1) % p = N / p / p ^ i % p
    rw [Int.pow_succ, Int.mul_comm, Int.ediv_ediv_of_nonneg (by omega)]
theorem figL_len (p : Int) (s : Nat) (N : Int) : (figL p s N).length = s := by simp [figL]
theorem figR_len (p : Int) (s : Nat) (N : Int) : (figR p s N).length = s := by simp [figR, figL]
theorem figR_bd {p : Int} (hp : 0 < p) (s : Nat) (N : Int) : ∀ f ∈ figR p s N, 0 ≤ f ∧ f < p := fun f hf => by
  obtain ⟨i, _, rfl⟩ := List.mem_map.mp (List.mem_reverse.mp hf)
  exact ⟨Int.emod_nonneg _ (by omega), Int.emod_lt_of_pos _ hp⟩
theorem figL_inj {p : Int} (hp : 0 < p) : ∀ (s : Nat) (N M : Int), 0 ≤ N → N < p ^ s → 0 ≤ M → M < p ^ s → figL p s N = figL p s M → N = M
  | 0, N, M, h1, h2, h3, h4, _ => by
    rw [Int.pow_zero] at h2 h4
    omega
  | s + 1, N, M, h1, h2, h3, h4, e => by
    rw [figL_succ hp, figL_succ hp] at e
    obtain ⟨e1, e2⟩ := List.cons.inj e
    have d := figL_inj hp s (N / p) (M / p) (Int.ediv_nonneg h1 (by omega)) (Int.ediv_lt_of_lt_mul hp (by rw [Int.pow_succ] at h2; exact h2)) (Int.ediv_nonneg h3 (by omega)) (Int.ediv_lt_of_lt_mul hp (by rw [Int.pow_succ] at h4; exact h4)) e2
    rw [← Int.mul_ediv_add_emod N p, ← Int.mul_ediv_add_emod M p, d, e1]
theorem figL_all {p : Int} (hp : 0 < p) : ∀ (s : Nat) (fs : List Int), fs.length = s → (∀ f ∈ fs, 0 ≤ f ∧ f < p) → ∃ N, 0 ≤ N ∧ N < p ^ s ∧ figL p s N = fs
  | 0, fs, l, _ => ⟨0, by omega, by rw [Int.pow_zero]; omega, by rw [List.length_eq_zero_iff.mp l]; rfl⟩
  | s + 1, [], l, _ => by cases l
  | s + 1, f :: fs, l, h => by
    obtain ⟨M, m0, m1, e⟩ := figL_all hp s fs (Nat.succ.inj l) fun x hx => h x (List.mem_cons_of_mem _ hx)
    obtain ⟨f0, f1⟩ := h f List.mem_cons_self
    refine ⟨f + p * M, ?_, ?_, ?_⟩
    · have := Int.mul_nonneg (show 0 ≤ p by omega) m0
      omega
    · rw [Int.pow_succ]
      have : p * (M + 1) ≤ p * p ^ s := Int.mul_le_mul_of_nonneg_left (by omega) (by omega)
      rw [Int.mul_add, Int.mul_one] at this
      rw [Int.mul_comm (p ^ s) p]
      omega
    · rw [figL_succ hp, Int.add_mul_emod_self_left, Int.emod_eq_of_lt f0 f1, Int.add_mul_ediv_left _ _ (by omega), Int.ediv_eq_zero_of_lt f0 f1, Int.zero_add, e]
def rowN (p : Int) (n : Nat) (room : List (List Int)) (N : Int) : List Int := combR p n room (figR p room.length N)
section
variable {p : Int} {n : Nat} {room : List (List Int)}
theorem rowN_ok (hF : Fld p) (h : PFR p n room) (N : Int) : RowsOk p n [rowN p n room N] := comb_ok hF h
theorem rowN_in (h : PFR p n room) (N : Int) : InR p room (rowN p n room N) := comb_in h (figR_len _ _ _)
theorem rowN_inj (hF : Fld p) (h : PFR p n room) {N M : Int} (n0 : 0 ≤ N) (n1 : N < p ^ room.length) (m0 : 0 ≤ M) (m1 : M < p ^ room.length) (e : rowN p n room N = rowN p n room M) : N = M := by
  have h2 := hF.1
  refine figL_inj (by omega) room.length N M n0 n1 m0 m1 ?_
  have er : figR p room.length N = figR p room.length M := by
    refine List.ext_getElem (by rw [figR_len, figR_len]) fun j h1 h2' => ?_
    rw [figR_len] at h1
    have g : room[j]? = some room[j] := List.getElem?_eq_getElem h1
    have a1 := comb_at hF h (figR_len p room.length N) (figR_bd (by omega) _ _) g
    have a2 := comb_at hF h (figR_len p room.length M) (figR_bd (by omega) _ _) g
    have e' : combR p n room (figR p room.length N) = combR p n room (figR p room.length M) := e
    rw [e', a2, gd_lt h2', gd_lt (by rw [figR_len]; exact h1)] at a1
    exact a1.symm
  have := congrArg List.reverse er
  unfold figR at this
  rwa [List.reverse_reverse, List.reverse_reverse] at this
theorem rowN_all (hF : Fld p) (h : PFR p n room) {r : List Int} (hr : RowsOk p n [r]) (hi : InR p room r) : ∃ N, 0 ≤ N ∧ N < p ^ room.length ∧ rowN p n room N = r := by
  have h2 := hF.1
  have okr := hr r List.mem_cons_self
  obtain ⟨N, n0, n1, e⟩ := figL_all (p := p) (by omega) room.length ((room.map fun b => r.getD (fpR b) 0).reverse) (by rw [List.length_reverse, List.length_map]) fun f hf => by
    obtain ⟨b, _, rfl⟩ := List.mem_map.mp (List.mem_reverse.mp hf)
    exact getD_lt (by omega) okr.2 _
  refine ⟨N, n0, n1, ?_⟩
  unfold rowN figR
  rw [e, List.reverse_reverse]
  exact comb_told hF h hr hi
theorem rowN_zero (hF : Fld p) (h : PFR p n room) : rowN p n room 0 = List.replicate n 0 := by
  have h2 := hF.1
  have e : figR p room.length 0 = room.map fun b => (List.replicate n (0 : Int)).getD (fpR b) 0 := by
    refine List.ext_getElem (by rw [figR_len, List.length_map]) fun j h1 h2' => ?_
    have hjr : j < room.length := by
      rw [List.length_map] at h2'
      exact h2'
    rw [List.getElem_map]
    have g0 : (List.replicate n (0 : Int)).getD (fpR room[j]) 0 = 0 := by
      by_cases hj : fpR room[j] < n
      · rw [gd_lt (by rw [List.length_replicate]; exact hj)]
        simp
      · exact gd_ge (by rw [List.length_replicate]; omega)
    rw [g0]
    have m := List.getElem_mem h1
    obtain ⟨i, _, ei⟩ := List.mem_map.mp (List.mem_reverse.mp m)
    rw [← ei, Int.zero_ediv, Int.zero_emod]
  unfold rowN
  rw [e]
  exact comb_told hF h (rowsOk_one (row_noughts' (by omega) n)) (InR.noughts _ _ _)
end
/-! ### worlds -/
section
variable {p : Int} {n : Nat} {r w v : List Int}
theorem worth_cF {q : Nat} [NeZero q] (hr : r.length = n) (hw : w.length = n) (hv : v.length = n) (m : Int) : cF (q := q) (worthR q r (plusR q w v m)) = cF (worthR q r w) + cF m * cF (worthR q r v) := by
  rw [worth_dot hr (by rw [plus_len (by rw [hw, hv]), hw]), worth_dot hr hw, worth_dot hr hv, toV_plus (by rw [hw, hv]), dot_comm, dot_add, dot_mul, dot_comm n (toV w), dot_comm n (toV v)]
theorem worth_moved (hF : Fld p) (hr : r.length = n) (hw : w.length = n) (hv : v.length = n) (h0 : worthR p r v = 0) : worthR p r (plusR p w v 1) = worthR p r w := by
  obtain ⟨q, rfl, z, hF⟩ := to_q hF
  refine cF_inj (q := q) (worth_bd q_pos) (worth_bd q_pos) ?_
  rw [worth_cF hr hw hv, h0, cF_zero]
  grind
theorem worth_diff (hF : Fld p) (hr : r.length = n) (hw : w.length = n) (hv : v.length = n) : worthR p r (plusR p v w (p - 1)) = 0 ↔ worthR p r w = worthR p r v := by
  obtain ⟨q, rfl, z, hF⟩ := to_q hF
  have e := worth_cF (q := q) hr hv hw ((q : Int) - 1)
  rw [cF_less (q2 hF)] at e
  constructor
  · intro h
    rw [h, cF_zero] at e
    refine cF_inj (q := q) (worth_bd q_pos) (worth_bd q_pos) ?_
    grind
  · intro h
    rw [h] at e
    refine cF_inj (q := q) (worth_bd q_pos) ⟨by omega, q_pos⟩ ?_
    rw [e, cF_zero]
    grind
theorem worth_made (hF : Fld p) {room : List (List Int)} (ok : RowsOk p n room) (hr : r.length = n) (hv : v.length = n) (hi : InR p room r) (h0 : ∀ x ∈ room, worthR p x v = 0) : worthR p r v = 0 := by
  obtain ⟨q, rfl, z, hF⟩ := to_q hF
  rw [worth_zero (q := q) hr hv]
  exact spn_dot (fun x hx => (worth_zero (q := q) (ok x hx).1 hv).mp (h0 x hx)) (hi q z rfl)
theorem plus_back (hF : Fld p) (hw : RowsOk p n [w]) (hv : RowsOk p n [v]) : plusR p w (plusR p v w (p - 1)) 1 = v := by
  have h2 := hF.1
  have okw := hw w List.mem_cons_self
  have okv := hv v List.mem_cons_self
  have l1 := plus_row (p := p) (by omega) okv.1 okw.1 (p - 1)
  have l2 := plus_row (p := p) (by omega) okw.1 l1.1 1
  obtain ⟨q, rfl, z, hF⟩ := to_q hF
  refine toV_inj (q := q) (by rw [l2.1, okv.1]) l2.2 okv.2 ?_
  rw [toV_plus (by rw [okw.1, l1.1]), toV_plus (by rw [okv.1, okw.1]), cF_less (q2 hF), cF_one (q2 hF)]
  funext i
  show toV w i + 1 * (toV v i + -1 * toV w i) = toV v i
  grind
theorem plus_inj (hF : Fld p) {u : List Int} (hw : w.length = n) (hv : RowsOk p n [v]) (hu : RowsOk p n [u]) (e : plusR p w v 1 = plusR p w u 1) : v = u := by
  have okv := hv v List.mem_cons_self
  have oku := hu u List.mem_cons_self
  obtain ⟨q, rfl, z, hF⟩ := to_q hF
  refine toV_inj (q := q) (by rw [okv.1, oku.1]) okv.2 oku.2 ?_
  have e := congrArg (toV (q := q)) e
  rw [toV_plus (by rw [hw, okv.1]), toV_plus (by rw [hw, oku.1]), cF_one (q2 hF)] at e
  funext i
  have e : toV w i + 1 * toV v i = toV w i + 1 * toV u i := congrFun e i
  grind
def alikeR (p : Int) (room : List (List Int)) (one other : List Int) : Bool := room.all fun r => decide (worthR p r one = worthR p r other)
theorem alike_moved (hF : Fld p) {room : List (List Int)} (h : PFR p n room) (hw : w.length = n) (hv : v ∈ [v]) (okv : RowsOk p n [v]) (hi : InR p (acrossR p n room) v) : ∀ r ∈ room, worthR p r (plusR p w v 1) = worthR p r w := fun r hr =>
  worth_moved hF (h.1 r hr).1 hw (okv v List.mem_cons_self).1 ((across_iff hF h okv).mp hi r hr)
/-- all worlds alike, by their numbers -/
theorem alike_all {q : Nat} (hF : Fld (q : Int)) {room : List (List Int)} (h : PFR q n room) (hw : RowsOk q n [w]) : ((List.range (q ^ (acrossR q n room).length)).map fun (N : Nat) => plusR q w (rowN q n (acrossR q n room) N) 1).Perm ((allR q n).filter fun g => alikeR q room w g) := by
  have h2 := hF.1
  have okw := hw w List.mem_cons_self
  have pa := PFR.across hF n room
  refine (List.perm_ext_iff_of_nodup ?_ ((allR_nodup q n).filter _)).mpr fun g => ?_
  · refine List.pairwise_map.mpr (List.Pairwise.imp_of_mem (fun {a b} ha hb hab e => hab ?_) (List.nodup_range))
    have ha := List.mem_range.mp ha
    have hb := List.mem_range.mp hb
    have pw : ((q ^ (acrossR (q : Int) n room).length : Nat) : Int) = (q : Int) ^ (acrossR (q : Int) n room).length := Int.natCast_pow ..
    have := rowN_inj hF pa (N := a) (M := b) (by omega) (by omega) (by omega) (by omega) (plus_inj hF okw.1 (rowN_ok hF pa _) (rowN_ok hF pa _) e)
    omega
  · rw [List.mem_filter]
    constructor
    · intro hg
      obtain ⟨N, hN, rfl⟩ := List.mem_map.mp hg
      have okv := rowN_ok hF pa (N : Int)
      have okp := plus_row (p := (q : Int)) (by omega) okw.1 (okv _ List.mem_cons_self).1 1
      refine ⟨allR_all okp.1 okp.2, List.all_eq_true.mpr fun r hr => decide_eq_true ?_⟩
      exact (alike_moved hF h okw.1 List.mem_cons_self okv (rowN_in pa _) r hr).symm
    · rintro ⟨hg, ha⟩
      have okg : RowsOk q n [g] := rowsOk_one (allR_ok hg)
      have okg' := okg g List.mem_cons_self
      have okd : RowsOk q n [plusR q g w ((q : Int) - 1)] := rowsOk_one (plus_row (by omega) okg'.1 okw.1 _)
      have hin : InR q (acrossR q n room) (plusR q g w ((q : Int) - 1)) := (across_iff hF h okd).mpr fun r hr => (worth_diff hF (h.1 r hr).1 okw.1 okg'.1).mpr (of_decide_eq_true (List.all_eq_true.mp ha r hr))
      obtain ⟨N, n0, n1, e⟩ := rowN_all hF pa okd hin
      refine List.mem_map.mpr ⟨N.toNat, List.mem_range.mpr ?_, ?_⟩
      · have : ((N.toNat : Nat) : Int) < ((q ^ (acrossR (q : Int) n room).length : Nat) : Int) := by
          rw [Int.natCast_pow]
          omega
        omega
      · rw [show ((N.toNat : Nat) : Int) = N by omega, e]
        exact plus_back hF hw okg
theorem plus_noughts (hF : Fld p) (hw : RowsOk p n [w]) : plusR p w (List.replicate n 0) 1 = w := by
  have h2 := hF.1
  have okw := hw w List.mem_cons_self
  have l1 := plus_row (p := p) (by omega) okw.1 (row_noughts' (p := p) (by omega) n).1 1
  obtain ⟨q, rfl, z, hF⟩ := to_q hF
  refine toV_inj (q := q) (by rw [l1.1, okw.1]) l1.2 okw.2 ?_
  rw [toV_plus (by rw [okw.1, List.length_replicate]), toV_noughts, cF_one (q2 hF)]
  funext i
  show toV w i + 1 * 0 = toV w i
  grind
theorem moved_same (hF : Fld p) {far : List (List Int)} (h : PFR p n far) (hw : RowsOk p n [w]) {N : Int} (n0 : 0 ≤ N) (n1 : N < p ^ far.length) : decide (plusR p w (rowN p n far N) 1 = w) = decide (N = 0) := by
  have h2 := hF.1
  have okw := hw w List.mem_cons_self
  refine decide_eq_decide.mpr ⟨fun e => ?_, fun e => ?_⟩
  · have e2 := e.trans (plus_noughts hF hw).symm
    rw [← rowN_zero hF h] at e2
    exact rowN_inj hF h n0 n1 (by omega) (Int.pow_pos (by omega)) (plus_inj hF okw.1 (rowN_ok hF h _) (rowN_ok hF h _) e2)
  · rw [e, rowN_zero hF h]
    exact plus_noughts hF hw
theorem alike_true {room : List (List Int)} {x y : List Int} (h : ∀ r ∈ room, worthR p r y = worthR p r x) : alikeR p room x y = true := List.all_eq_true.mpr fun r hr => decide_eq_true (h r hr).symm
theorem alike_left {room : List (List Int)} {x x' y : List Int} (h : ∀ r ∈ room, worthR p r x' = worthR p r x) : alikeR p room x' y = alikeR p room x y := by
  unfold alikeR
  rw [Bool.eq_iff_iff, List.all_eq_true, List.all_eq_true]
  constructor
  · intro a r hr
    rw [← h r hr]
    exact a r hr
  · intro a r hr
    rw [h r hr]
    exact a r hr
end
end OC

set_option Elab.async false
set_option linter.all false
set_option maxRecDepth 100000
set_option maxHeartbeats 4000000
/-! rows led by an exchange of places; what rows are worth tells what a row is worth -/
namespace OC
open PySem PySem.Spec PyProof.Rows L2 Lin
def ledR (pl : List Nat) (r : List Int) : List Int := pl.map fun i => r.getD i 0
section
variable {p : Int} {n : Nat} {rs : List (List Int)} {r : List Int} {pl : List Nat}
theorem led_row (hp : 0 < p) (h : ∀ x ∈ r, 0 ≤ x ∧ x < p) (hl : pl.length = n) : (ledR pl r).length = n ∧ ∀ x ∈ ledR pl r, 0 ≤ x ∧ x < p := by
  refine ⟨by unfold ledR; rw [List.length_map, hl], fun x hx => ?_⟩
  obtain ⟨i, _, rfl⟩ := List.mem_map.mp hx
  exact getD_lt hp h i
theorem led_toV {q : Nat} [NeZero q] {i : Nat} (hi : i < pl.length) : toV (q := q) (ledR pl r) i = toV r pl[i] := by
  show cF _ = cF _
  congr 1
  unfold ledR
  rw [gd_lt (by rw [List.length_map]; exact hi), List.getElem_map]
theorem lin_led {q : Nat} [NeZero q] {i : Nat} (hi : i < pl.length) : ∀ (fs : List (Fin q)) (rs : List (List Int)), lin fs ((rs.map (ledR pl)).map (toV (q := q))) i = lin fs (rs.map (toV (q := q))) pl[i]
  | [], _ => by rw [lin_nil, lin_nil]; rfl
  | _ :: _, [] => rfl
  | f :: fs, x :: rs => by
    show f * toV (ledR pl x) i + lin fs ((rs.map (ledR pl)).map toV) i = f * toV x pl[i] + lin fs (rs.map toV) pl[i]
    rw [led_toV hi, lin_led hi fs rs]
theorem hasR_led (hF : Fld p) (ok : RowsOk p n rs) (okr : RowsOk p n [r]) (pm : pl.Perm (List.range n)) : hasR p n (rs.map (ledR pl)) (ledR pl r) = hasR p n rs r := by
  have h2 := hF.1
  have ll : pl.length = n := by rw [pm.length_eq, List.length_range]
  have okr' := okr r List.mem_cons_self
  have okl : RowsOk p n (rs.map (ledR pl)) := fun x hx => by
    obtain ⟨y, my, rfl⟩ := List.mem_map.mp hx
    exact led_row (by omega) (ok y my).2 ll
  have oklr := led_row (pl := pl) (by omega) okr'.2 ll
  rw [Bool.eq_iff_iff, hasR_in hF okl (rowsOk_one oklr), hasR_in hF ok okr]
  constructor
  · intro h q z e
    subst e
    obtain ⟨fs, ef⟩ := h q z rfl
    refine ⟨fs, funext fun j => ?_⟩
    by_cases hj : j < n
    · obtain ⟨i, hi, e⟩ := List.getElem_of_mem (pm.mem_iff.mpr (List.mem_range.mpr hj))
      have := congrFun ef i
      rw [led_toV hi, lin_led hi, e] at this
      exact this
    · rw [toV_wid okr'.1 j (by omega), lin_low fs _ (rows_wid ok) j (by omega)]
  · intro h q z e
    subst e
    obtain ⟨fs, ef⟩ := h q z rfl
    refine ⟨fs, funext fun i => ?_⟩
    by_cases hi : i < n
    · rw [led_toV (by omega), lin_led (by omega), ef]
    · rw [toV_wid oklr.1 i (by omega), lin_low fs _ (rows_wid okl) i (by omega)]
theorem key_tells (hF : Fld p) (ok : RowsOk p n rs) (okr : RowsOk p n [r]) (hi : InR p rs r) {g h : List Int} (lg : g.length = n) (lh : h.length = n) (e : rs.map (fun x => worthR p x g) = rs.map (fun x => worthR p x h)) : worthR p r g = worthR p r h := by
  have okr' := okr r List.mem_cons_self
  have l1 : (plusR p h g (p - 1)).length = n := by rw [plus_len (by rw [lg, lh]), lh]
  refine (worth_diff hF okr'.1 lg lh).mp (worth_made hF ok okr'.1 l1 hi fun x hx => (worth_diff hF (ok x hx).1 lg lh).mpr ?_)
  exact List.map_inj_left.mp e x hx
theorem key_parts (hF : Fld p) (ok : RowsOk p n rs) (okr : RowsOk p n [r]) (hn : hasR p n rs r = false) : ∃ wd, RowsOk p n [wd] ∧ (∀ x ∈ rs, worthR p x wd = 0) ∧ worthR p r wd ≠ 0 := by
  apply Classical.byContradiction
  intro hc
  have : hasR p n rs r = true := (across_parts hF ok okr).mp fun w hw => by
    apply Classical.byContradiction
    intro hw0
    exact hc ⟨w, rowsOk_one ((PFR.across hF n _).1 w hw), fun x hx => across_worth hF ok hx hw, hw0⟩
  rw [hn] at this
  cases this
theorem worth_nought0 {x : List Int} : worthR p x (List.replicate n 0) = 0 := by
  have : ∀ (x : List Int) (n : Nat), (List.zipWith (fun a b => a * b) x (List.replicate n 0)).sum = 0 := by
    intro x
    induction x with
    | nil => intro n; rfl
    | cons a x ih =>
      intro n
      cases n with
      | zero => rfl
      | succ n => rw [List.replicate_succ, List.zipWith_cons_cons, List.sum_cons, ih n, Int.mul_zero]; rfl
  unfold worthR
  rw [this, Int.zero_emod]
end
end OC

set_option Elab.async false
set_option linter.all false
set_option maxRecDepth 100000
set_option maxHeartbeats 4000000
/-! plain rows in any order: what is left of a row, and one row more -/
namespace Lin
section
variable {p : Nat} [NeZero p]
theorem red_perm {l m : List (Nat × Vec p)} (h : l.Perm m) (x : Vec p) : red l x = red m x := by
  induction h with
  | nil => rfl
  | cons b _ ih =>
    show addV (mulV (x b.1) b.2) _ = addV (mulV (x b.1) b.2) _
    rw [ih]
  | swap a b l =>
    funext i
    show x b.1 * b.2 i + (x a.1 * a.2 i + red l x i) = x a.1 * a.2 i + (x b.1 * b.2 i + red l x i)
    grind
  | trans _ _ i1 i2 => exact i1.trans i2
end
end Lin
namespace OC
open PySem PySem.Spec PyProof.Rows L2 Lin
section
variable {q : Nat} [NeZero q]
def pairV (b : List Int) : Nat × Vec q := (fpR b, toV (q := q) b)
theorem pairs_of : ∀ (room : List (List Int)) (bs : List (Nat × Vec q)), room.map fpR = bs.map (·.1) → bs.map (·.2) = room.map (toV (q := q)) → bs = room.map (pairV (q := q))
  | [], [], _, _ => rfl
  | [], _ :: _, h, _ => by cases h
  | _ :: _, [], h, _ => by cases h
  | c :: room, b :: bs, h1, h2 => by
    rw [List.map_cons, List.map_cons] at h1 h2
    obtain ⟨a1, a2⟩ := List.cons.inj h1
    obtain ⟨b1, b2⟩ := List.cons.inj h2
    rw [List.map_cons, ← pairs_of room bs a2 b2]
    congr 1
    exact Prod.ext a1.symm b1
theorem left_any (hF : Fld (q : Int)) {n : Nat} {room found : List (List Int)} (h : IsPF q n room) (pm : found.Perm room) {r : List Int} (hr : RowsOk q n [r]) : leftR q found r = leftR q room r := by
  obtain ⟨ok, bs, pf, e⟩ := h
  have ld : ∀ b ∈ bs, Lead b.2 b.1 := fun b hb => pf.leads (one_ne (q2 hF)) hb
  have eb := pairs_of room bs (firsts_eq room bs ok e ld) e
  have pc : (found.map (pairV (q := q))).Perm bs := by
    rw [eb]
    exact pm.map _
  have okf : RowsOk q n found := fun x hx => ok x (pm.mem_iff.mp hx)
  obtain ⟨a1, a2⟩ := leftR_sim room bs r ok hr e ld
  obtain ⟨b1, b2⟩ := leftR_sim found (found.map (pairV (q := q))) r okf hr (by rw [List.map_map]; rfl) fun b hb => ld b (pc.mem_iff.mp hb)
  have l1 := a1 _ List.mem_cons_self
  have l2 := b1 _ List.mem_cons_self
  refine toV_inj (q := q) (by rw [l1.1, l2.1]) l2.2 l1.2 ?_
  have pw : (found.map (pairV (q := q))).Pairwise (fun a c => a.2 c.1 = 0 ∧ c.2 a.1 = 0) := perm_pw (R := fun a c => a.2 c.1 = 0 ∧ c.2 a.1 = 0) (fun a b z => ⟨z.2, z.1⟩) pc (pf.inc.imp_of_mem fun {a c} ha hc hlt => ⟨pf.off a ha c hc (by omega), pf.off c hc a ha (by omega)⟩)
  rw [a2, b2, pf.leftF, leftF_eq _ _ (pw.imp fun z => z.1)]
  funext i
  show toV r i - red (found.map (pairV (q := q))) (toV r) i = toV r i - red bs (toV r) i
  rw [red_perm pc]
theorem desc (hF : Fld (q : Int)) {n : Nat} {room : List (List Int)} (h : IsPF q n room) : room.Pairwise fun a b => codeR q b < codeR q a := by
  obtain ⟨ok, bs, pf, e⟩ := h
  have ld : ∀ b ∈ bs, Lead b.2 b.1 := fun b hb => pf.leads (one_ne (q2 hF)) hb
  have fe := firsts_eq room bs ok e ld
  have : (room.map fpR).Pairwise (· < ·) := by
    rw [fe, List.pairwise_map]
    exact pf.inc
  rw [List.pairwise_map] at this
  exact this.imp_of_mem fun {a b} ha hb hlt => code_lead q_pos b a (by rw [(ok a ha).1, (ok b hb).1]) (ok b hb).2 (ok a ha).2 hlt
end
section
variable {p : Int} {n : Nat} {room found : List (List Int)} {r : List Int}
theorem PFR.left_any (hF : Fld p) (h : PFR p n room) (pm : found.Perm room) (hr : RowsOk p n [r]) : leftR p found r = leftR p room r := by
  obtain ⟨q, rfl, z, hF⟩ := to_q hF
  exact OC.left_any hF ((isPF_iff hF).mpr h) pm hr
theorem PFR.desc (hF : Fld p) (h : PFR p n room) : room.Pairwise fun a b => codeR p b < codeR p a := by
  obtain ⟨q, rfl, z, hF⟩ := to_q hF
  exact OC.desc hF ((isPF_iff hF).mpr h)
theorem PFR.more_perm (hF : Fld p) (h : PFR p n room) (hr : RowsOk p n [r]) (hne : fpR (leftR p room r) < n) : (ownR p (leftR p room r) (fpR (leftR p room r)) :: room.map fun b => lessR p b (ownR p (leftR p room r) (fpR (leftR p room r))) (fpR (leftR p room r))).Perm (plainR p n (room ++ [r])) := by
  generalize hL : (ownR p (leftR p room r) (fpR (leftR p room r)) :: room.map fun b => lessR p b (ownR p (leftR p room r) (fpR (leftR p room r))) (fpR (leftR p room r))) = L
  have pm := List.mergeSort_perm L (fun a b => decide (codeR p b ≤ codeR p a))
  have pw := List.pairwise_mergeSort (le := fun a b => decide (codeR p b ≤ codeR p a)) (fun a b c h1 h2 => decide_eq_true (by have := of_decide_eq_true h1; have := of_decide_eq_true h2; omega)) (fun a b => by
    by_cases hc : codeR p b ≤ codeR p a
    · rw [decide_eq_true hc]; rfl
    · rw [decide_eq_false hc, decide_eq_true (show codeR p a ≤ codeR p b by omega)]; rfl) L
  have e := PFR.widen hF h hr hne (rs := L.mergeSort fun a b => decide (codeR p b ≤ codeR p a)) (by rw [hL]; exact pm) (pw.imp fun z => of_decide_eq_true z)
  rw [← e]
  exact pm.symm
theorem strict_one {f : List Int → Int} : ∀ {l : List (List Int)}, l.Pairwise (fun a b => f b < f a) → ∀ a ∈ l, ∀ b ∈ l, f a = f b → a = b
  | [], _, a, ha, _, _, _ => (nomatch ha)
  | c :: l, h, a, ha, b, hb, e => by
    rw [List.pairwise_cons] at h
    rcases List.mem_cons.mp ha with ea | ha'
    · rcases List.mem_cons.mp hb with eb | hb'
      · rw [ea, eb]
      · have := h.1 b hb'
        rw [← ea] at this
        omega
    · rcases List.mem_cons.mp hb with eb | hb'
      · have := h.1 a ha'
        rw [← eb] at this
        omega
      · exact strict_one h.2 a ha' b hb' e
theorem PFR.desc_one (hF : Fld p) (h : PFR p n room) (pm : found.Perm room) (pw : found.Pairwise fun a b => codeR p b ≤ codeR p a) : found = room := by
  have d := PFR.desc hF h
  exact pm.eq_of_pairwise (le := fun a b => codeR p b ≤ codeR p a) (fun a b ha hb h1 h2 => strict_one d a (pm.mem_iff.mp ha) b hb (by omega)) pw (d.imp fun z => Int.le_of_lt z)
/-- one row more, the plain rows in any order -/
theorem PFR.step (hF : Fld p) (h : PFR p n room) (pm : found.Perm room) (hr : RowsOk p n [r]) (hne : fpR (leftR p room r) < n) : ((found.map fun b => lessR p b (ownR p (leftR p room r) (fpR (leftR p room r))) (fpR (leftR p room r))) ++ [ownR p (leftR p room r) (fpR (leftR p room r))]).Perm (plainR p n (room ++ [r])) := by
  refine List.Perm.trans ?_ (PFR.more_perm hF h hr hne)
  exact (List.perm_append_comm).trans ((List.Perm.cons _ (pm.map _)))
theorem own_first (hF : Fld p) {y : List Int} (ok : y.length = n ∧ ∀ x ∈ y, 0 ≤ x ∧ x < p) (hlt : fpR y < n) : fpR (ownR p y (fpR y)) = fpR y := by
  have h2 := hF.1
  have b := getD_lt (by omega) ok.2 (fpR y)
  have nz : y.getD (fpR y) 0 ≠ 0 := fpR_at (by rw [ok.1]; exact hlt)
  have hc := ctr_ok hF (show 1 ≤ y.getD (fpR y) 0 by omega) b.2
  have gd : ∀ i, i < n → (ownR p y (fpR y)).getD i 0 = ctr p (y.getD (fpR y) 0) * y.getD i 0 % p := fun i hi => by
    unfold ownR
    rw [gd_lt (by rw [List.length_map, ok.1]; exact hi), List.getElem_map, gd_lt (r := y) (i := i) (by rw [ok.1]; exact hi)]
  refine fpR_of ?_ fun i hi => ?_
  · rw [gd _ hlt, Int.mul_comm, hc.2.2]
    decide
  · rw [gd _ (by omega), fpR_low hi, Int.mul_zero, Int.zero_emod]
/-- the contrary rest, looked for from 1 on -/
theorem ctr_from1 (hF : Fld p) {a : Int} (h0 : 1 ≤ a) (h1 : a < p) : (((List.range (p - 1).toNat).map fun (i : Nat) => (1 + (i : Int))).filter fun k => decide (k * a % p = 1))[0]? = some (ctr p a) := by
  have h2 := hF.1
  have e : (List.range p.toNat).map (fun (b : Nat) => (b : Int)) = 0 :: (List.range (p - 1).toNat).map fun (i : Nat) => (1 + (i : Int)) := by
    rw [show p.toNat = (p - 1).toNat + 1 by omega, List.range_succ_eq_map, List.map_cons, List.map_map]
    congr 1
    refine List.map_congr_left fun i _ => ?_
    show ((i + 1 : Nat) : Int) = 1 + (i : Int)
    omega
  have hh : ctr p a = (((List.range (p - 1).toNat).map fun (i : Nat) => (1 + (i : Int))).filter fun b => decide (a * b % p = 1)).headD 0 := by
    unfold ctr
    rw [e, List.filter_cons_of_neg (by rw [Int.mul_zero, Int.zero_emod]; decide)]
  have ec : (fun k : Int => decide (k * a % p = 1)) = fun b => decide (a * b % p = 1) := by
    funext k
    rw [Int.mul_comm]
  rw [ec]
  have hc := ctr_ok hF h0 h1
  generalize hL : ((List.range (p - 1).toNat).map fun (i : Nat) => (1 + (i : Int))).filter (fun b => decide (a * b % p = 1)) = L at hh ⊢
  cases L with
  | nil =>
    rw [show ([] : List Int).headD 0 = 0 from rfl] at hh
    rw [hh, Int.mul_zero, Int.zero_emod] at hc
    exact absurd hc.2.2 (by decide)
  | cons x L => rw [hh]; rfl
end
end OC

set_option Elab.async false
set_option linter.all false
set_option maxRecDepth 100000
set_option maxHeartbeats 4000000
/-! the drawn numbers of the laws over stands: a list of cells, a count, a list of rests -/
namespace OC
open PySem PySem.Spec PyProof.Rows L2
structure Drw (H : Hp) (d c e : Addr) (t : Int) : Prop where
  hd : H d = some (.lst [.ref c, .int t, .ref e])
  hc : ∃ cells rests : List Int, H c = some (.lst (cells.map V.int)) ∧ H e = some (.lst (rests.map V.int)) ∧ cells.length = rests.length ∧ 0 < cells.length ∧ cells.length ≤ 63 ∧ ∀ x ∈ rests, 0 ≤ x
  cd : c ≠ d
  ed : e ≠ d
  ce : c ≠ e
  t0 : 0 ≤ t
section
variable {H H' : Hp} {d c e : Addr} {t : Int}
theorem Drw.same (D : Drw H d c e t) (s : Same H H') : Drw H' d c e t := by
  obtain ⟨hd, ⟨cells, rests, h1, h2, h3⟩, a, b, f, t0⟩ := D
  exact ⟨s _ _ hd, ⟨cells, rests, s _ _ h1, s _ _ h2, h3⟩, a, b, f, t0⟩
/-- one of the three lists -/
def Bd3 (d c e : Addr) : Addr → Prop := fun a => a = d ∨ a = c ∨ a = e
theorem Drw.fresh (D : Drw H d c e t) {p : Addr} (n : H p = none) : ¬ Bd3 d c e p := by
  obtain ⟨hd, ⟨cells, rests, h1, h2, h3⟩, _⟩ := D
  rintro (z | z | z)
  · subst z; rw [hd] at n; cases n
  · subst z; rw [h1] at n; cases n
  · subst z; rw [h2] at n; cases n
theorem Drw.mut (D : Drw H d c e t) {B : Addr} {o : HO} (b : ¬ Bd3 d c e B) : Drw (upd H B o) d c e t := by
  obtain ⟨hd, ⟨cells, rests, h1, h2, h3⟩, x, y, z, t0⟩ := D
  exact ⟨by rw [upd_ne (fun z => b (.inl z.symm))]; exact hd, ⟨cells, rests, by rw [upd_ne (fun z => b (.inr (.inl z.symm)))]; exact h1, by rw [upd_ne (fun z => b (.inr (.inr z.symm)))]; exact h2, h3⟩, x, y, z, t0⟩
theorem Drw.tup {K : PySem.W.Frag} (D : Drw H d c e t) (k : Kept d e H H') {a : Addr} {xs : List V} (h : SqT K H a xs) : SqT K H' a xs := by
  obtain ⟨hd, ⟨cells, rests, h1, h2, h3⟩, _⟩ := D
  rcases h with (h | ⟨o, h⟩) | h
  · exact .inl (.inl (k _ _ h (fun z => by subst z; rw [hd] at h; cases h) (fun z => by subst z; rw [h2] at h; cases h)))
  · exact .inl (.inr ⟨o, k _ _ h (fun z => by subst z; rw [hd] at h; cases h) (fun z => by subst z; rw [h2] at h; cases h)⟩)
  · exact .inr h
theorem Drw.tk (D : Drw H d c e t) (k : Kept d e H H') : Tk H H' := fun _ _ _ h => D.tup k h
theorem Drw.rows {K : PySem.W.Frag} (D : Drw H d c e t) (k : Kept d e H H') {a : Addr} {rs : List (List Int)} (h : RowsAt K H a rs) : RowsAt K H' a rs := by
  obtain ⟨ws, h1, h2⟩ := h
  exact ⟨ws, D.tup k h1, dpAll_tk (D.tk k) _ _ (noL_rows rs) h2⟩
theorem Drw.lst (k : Kept d e H H') {a : Addr} {o : HO} (b : ¬ Bd3 d c e a) (h : H a = some o) : H' a = some o := k _ _ h (fun z => b (.inl z)) (fun z => b (.inr (.inr z)))
end
theorem wide_m4 {m : Int} (h0 : 0 < m) (h1 : m < 100000000000000000000) : m.natAbs.log2 < 9000 := by
  have e : (2 : Nat) ^ 67 = 147573952589676412928 := by decide
  have := PySem.Flt.log2_lt_of (k := 67) (n := m.natAbs) (by decide) (by rw [e]; omega)
  omega
theorem sql_same {K : PySem.W.Frag} {H H' : Hp} {a : Addr} {xs : List V} (e : Same H H') (h : SqL K H a xs) : SqL K H' a xs := by
  rcases h with (h | ⟨o, h⟩) | h
  · exact .inl (.inl (e _ _ h))
  · exact .inl (.inr ⟨o, e _ _ h⟩)
  · exact .inr h
def bigI (x : Int) : Int := x * (if decide (x ≥ 10 ^ 18) = true then 1 else 0)
theorem bigI_pos (x : Int) : 0 ≤ bigI x := by
  unfold bigI
  by_cases h : x ≥ 10 ^ 18
  · rw [if_pos (decide_eq_true h), Int.mul_one]
    exact Int.le_trans (by decide) h
  · rw [if_neg (fun z => h (of_decide_eq_true z)), Int.mul_zero]
    exact Int.le_refl _
end OC

set_option Elab.async false
set_option linter.all false
set_option maxRecDepth 100000
set_option maxHeartbeats 4000000
namespace OC
open PySem PySem.Spec PyProof.Rows L2
/-- a name: one to eight small letters -/
def NameOk (s : Str) : Prop := 1 ≤ s.length ∧ s.length ≤ 8 ∧ ∀ c ∈ s.cps.toList, 97 ≤ c ∧ c ≤ 122
def nameL (st : List Nat) (k c : Nat) : List Nat := st.take k ++ ([c] ++ st.drop k)
theorem nameL_inj {st : List Nat} {k c c' : Nat} (h : nameL st k c = nameL st k c') : c = c' := by
  unfold nameL at h
  have := List.append_cancel_left h
  exact (List.cons.inj this).1
theorem nameL_len (st : List Nat) (k c : Nat) : (nameL st k c).length = st.length + 1 := by
  unfold nameL
  rw [List.length_append, List.length_append, List.length_take, List.length_drop]
  simp only [List.length_cons, List.length_nil]
  omega
theorem nameL_ok {st : List Nat} {k c : Nat} (h : ∀ x ∈ st, 97 ≤ x ∧ x ≤ 122) (hl : st.length ≤ 7) (hc : 97 ≤ c ∧ c ≤ 122) : NameOk (SX.S (nameL st k c)) := by
  have e := SX.S_len (nameL st k c)
  rw [nameL_len] at e
  refine ⟨by omega, by omega, fun x hx => ?_⟩
  have hx : x ∈ nameL st k c := hx
  unfold nameL at hx
  rcases List.mem_append.mp hx with hx | hx
  · exact h x (List.mem_of_mem_take hx)
  · rcases List.mem_append.mp hx with hx | hx
    · rw [List.mem_singleton.mp hx]
      exact hc
    · exact h x (List.mem_of_mem_drop hx)
theorem step_inj {f s : Int} {i j : Nat} (hs : s = 1 ∨ s = 3 ∨ s = 5 ∨ s = 7 ∨ s = 9 ∨ s = 11 ∨ s = 15 ∨ s = 17) (hi : i < 26) (hj : j < 26) (h : (f + s * i) % 26 = (f + s * j) % 26) : i = j := by
  rcases hs with rfl | rfl | rfl | rfl | rfl | rfl | rfl | rfl
  all_goals omega
def lettersS : Str := "abcdefghijklmnopqrstuvwxyz"
theorem letters_at {i : Int} (h0 : 0 ≤ i) (h1 : i < 26) : atI lettersS.cps.toList i = some (97 + i.toNat) := by
  have a : ∀ k : Fin 26, atI lettersS.cps.toList (k.val : Int) = some (97 + k.val) := by decide +kernel
  have := a ⟨i.toNat, by omega⟩
  rw [show ((⟨i.toNat, by omega⟩ : Fin 26).val : Int) = i from Int.toNat_of_nonneg h0] at this
  exact this
theorem letters_len : lettersS.length = 26 := by decide +kernel
theorem join_ones : ∀ cs : List Nat, TL.joinL [] (cs.map fun c => [c]) = cs := by
  intro cs
  induction cs with
  | nil => rfl
  | cons c cs ih =>
    cases cs with
    | nil => rfl
    | cons d cs =>
      have : TL.joinL [] ((c :: d :: cs).map fun c => [c]) = [c] ++ ([] ++ TL.joinL [] ((d :: cs).map fun c => [c])) := rfl
      rw [this, ih]
      rfl
theorem ones_sum : ∀ cs : List Nat, ((cs.map fun c => SX.S [c]).map (·.length)).sum = cs.length := by
  intro cs
  induction cs with
  | nil => rfl
  | cons c cs ih =>
    rw [List.map_cons, List.map_cons, List.sum_cons, ih, SX.S_len, List.length_cons]
    simp only [List.length_cons, List.length_nil]
    omega
theorem join_cs (cs : List Nat) : Txt.join (Str.ofString "") (cs.map fun c => SX.S [c]) = SX.S cs := by
  have e := SX.join_S [] (cs.map fun c => [c])
  rw [List.map_map, join_ones] at e
  exact e
def nameAt (st : List Nat) (cut f s : Int) (k : Nat) : Str := SX.S (nameL st cut.toNat (97 + ((f + s * k) % 26).toNat))
theorem names_nodup {st : List Nat} {cut f s : Int} (hs : s = 1 ∨ s = 3 ∨ s = 5 ∨ s = 7 ∨ s = 9 ∨ s = 11 ∨ s = 15 ∨ s = 17) {m : Nat} (hm : m ≤ 26) : ((List.range m).map (nameAt st cut f s)).Nodup := by
  refine List.pairwise_map.mpr ((List.nodup_range (n := m)).imp_of_mem fun {i j} hi hj hne h => hne ?_)
  have hi := List.mem_range.mp hi
  have hj := List.mem_range.mp hj
  have h := nameL_inj (SX.S_inj h)
  refine step_inj (f := f) hs (by omega) (by omega) ?_
  have := Int.emod_nonneg (f + s * i) (b := 26) (by decide)
  have := Int.emod_nonneg (f + s * j) (b := 26) (by decide)
  omega
theorem nameAt_ok {st : List Nat} {cut f s : Int} {k : Nat} (h : ∀ x ∈ st, 97 ≤ x ∧ x ≤ 122) (hl : st.length ≤ 7) : NameOk (nameAt st cut f s k) := by
  refine nameL_ok h hl ?_
  have := Int.emod_nonneg (f + s * k) (b := 26) (by decide)
  have := Int.emod_lt_of_pos (f + s * k) (b := 26) (by decide)
  omega
end OC

set_option Elab.async false
set_option linter.all false
set_option maxRecDepth 100000
set_option maxHeartbeats 4000000
namespace OC
open PySem PySem.Spec PyProof.Rows L2
/-- a statement that is never reached -/
theorem ps_dead {X : Cx} {st : Stmt} : PS X st (fun _ _ _ => False) := ⟨fun _ _ _ _ _ _ h => h.elim⟩
def handD (h : Str × List (List Int)) : PyData := .tuple [.str h.1, .tuple (h.2.map rowD)]
/-- a stand as data -/
def standD (p : Int) (n : Nat) (kn : List (List Int)) (hs : List (Str × List (List Int))) : PyData := .tuple [.int p, .int n, .tuple (kn.map rowD), .tuple (hs.map handD)]
theorem noL_hands : ∀ hs : List (Str × List (List Int)), noLAll (hs.map handD) = true
  | [] => rfl
  | h :: hs => by
    have a : noL (handD h) = true := by
      unfold handD
      simp only [noL, noLAll, noL_rows, Bool.and_true]
    rw [List.map_cons]
    simp only [noLAll, a, noL_hands hs, Bool.and_true]
theorem noL_stand (p : Int) (n : Nat) (kn : List (List Int)) (hs : List (Str × List (List Int))) : noL (standD p n kn hs) = true := by
  unfold standD
  simp only [noL, noLAll, noL_rows, noL_hands, Bool.and_true]
theorem fld_stand {p : Int} (h : p = 5 ∨ p = 7 ∨ p = 11 ∨ p = 101) : Fld p := by
  rcases h with rfl | rfl | rfl | rfl
  · exact fld_of (p := 5) (by decide +kernel)
  · exact fld_of (p := 7) (by decide +kernel)
  · exact fld_of (p := 11) (by decide +kernel)
  · exact fld_of (p := 101) (by decide +kernel)
/-- a drawn stand -/
structure StandOk (p : Int) (n : Nat) (heard : List (List Int)) (hs : List (Str × List (List Int))) : Prop where
  p4 : p = 5 ∨ p = 7 ∨ p = 11 ∨ p = 101
  n1 : 1 ≤ n
  n8 : n ≤ 8
  ok : RowsOk p n heard
  lh : heard.length ≤ 2
  few : 2 ≤ hs.length
  many : hs.length ≤ 9
  srt : sortedS (hs.map Prod.fst) = true
  nd : (hs.map Prod.fst).Nodup
  nm : ∀ x ∈ hs.map Prod.fst, NameOk x
  rm : ∀ h ∈ hs, ∃ more, RowsOk p n more ∧ more.length ≤ 7 ∧ h.2 = plainR p n (heard ++ more)
/-- a comprehension of drawn rows -/
theorem lc_rows3 {K : PySem.W.Frag} {d c : Addr} {t p : Int} {n m : Nat} {σ : L2.St} {H : Hp} {Qd : Addr → Hp → Prop} {i : Nat} {sl : List Nat} {te : TE} (D0 : Deck H d c t) (hm : m ≤ 100) (hw : ∀ x : Option V, wipe ((wipe σ sl).set i x) sl = wipe σ sl)
    (hte : ∀ (x : V) (k : Nat) (t' : Int) (H' : Hp) (Q' : VK), Deck H' d c t' → t' ≤ t + 20 * k → k < m → (∀ H'' t'' a r, Kept d c H' H'' → Deck H'' d c t'' → t'' ≤ t' + 20 → H'' a = some (.tup (r.map V.int)) → RowsOk p n [r] → Q' (.ref a) H'') → te ((wipe σ sl).set i (some x)) H' Q')
    (hd : ∀ (D : Addr) (H' : Hp) (t' : Int) (ws : List V) (rs : List (List Int)), Kept d c H H' → Deck H' d c t' → t' ≤ t + 20 * m → H D = none → H' D = some (.lst ws) → DpAll K H' ws (rs.map rowD) → rs.length = m → RowsOk p n rs → Qd D H') :
    LcGoal (Itr 0 m) (gName i) tYes te sl σ H Qd := by
  intro D nD
  have bD := D0.fresh nD
  refine lc_range (lo := 0) (n := m) (fun k H' => Kept d c H H' ∧ ∃ (t' : Int) (ws : List V) (rs : List (List Int)), Deck H' d c t' ∧ t' ≤ t + 20 * k ∧ H' D = some (.lst ws) ∧ DpAll K H' ws (rs.map rowD) ∧ rs.length = k ∧ RowsOk p n rs) ⟨Kept.of (same_upd nD), t, [], [], D0.same (same_upd nD), by omega, upd_same, .nil, rfl, fun x hx => nomatch hx⟩ (fun k H' hk hW => ?_) (fun H' hW => ?_)
  · obtain ⟨k', t', ws, rs, D', ht', eB, dp, ln, ro⟩ := hW
    refine ⟨hw _, hte _ k t' H' _ D' ht' hk fun H1 t1 a r k1 D1 ht1 ea okr => ?_⟩
    have eB1 := k1 _ _ eB (fun z => bD (.inl z)) (fun z => bD (.inr z))
    have na : D ≠ a := fun z => by subst z; rw [eB1] at ea; cases ea
    have lw := dpAll_len dp
    rw [List.length_map] at lw
    have tk : Tk H1 (upd H1 D (.lst (ws ++ [.ref a]))) := (Tk.refl _).mut eB1
    refine ⟨ws, eB1, small1000 (by omega), (k'.trans k1).mut nD, t1, ws ++ [.ref a], rs ++ [r], D1.mut bD, by omega, upd_same, ?_, by rw [List.length_append, ln]; rfl, fun y hy => ?_⟩
    · rw [List.map_append]
      refine dpAll_append (dpAll_tk tk _ _ (noL_rows rs) (dpAll_tk (Tk.kept D' k1) _ _ (noL_rows rs) dp)) (.cons (.tup (.inl (.inl ?_)) (dpAll_ints r)) .nil)
      rw [upd_ne (Ne.symm na)]
      exact ea
    · rcases List.mem_append.mp hy with h | h
      · exact ro y h
      · rw [List.mem_singleton.mp h]
        exact okr r List.mem_cons_self
  · obtain ⟨k', t', ws, rs, D', ht', eB, dp, ln, ro⟩ := hW
    exact hd D H' t' ws rs k' D' ht' nD eB dp ln ro
/-- some rows of a list, drawn -/
theorem lc_pick3 {K : PySem.W.Frag} {d c a : Addr} {t p : Int} {n : Nat} {vs : List V} {rs : List (List Int)} {σ : L2.St} {H : Hp} {Qd : Addr → Hp → Prop} {i : Nat} {sl : List Nat} {tt : TT} (D0 : Deck H d c t) (hA : H a = some (.lst vs)) (bA : ¬ Bad d c a) (hD : DpAll K H vs (rs.map rowD)) (ok : RowsOk p n rs) (hm : rs.length ≤ 100) (hw : ∀ x : Option V, wipe ((wipe σ sl).set i x) sl = wipe σ sl) (hi : i < (wipe σ sl).length)
    (htt : ∀ (v : V) (t' : Int) (H' : Hp) (Q' : Bool → Hp → Prop), Deck H' d c t' → t' ≤ t + 100 → (∀ H'' (b : Bool), Kept d c H' H'' → Deck H'' d c (t' + 1) → Q' b H'') → tt ((wipe σ sl).set i (some v)) H' Q')
    (hd : ∀ (D : Addr) (H' : Hp) (t' : Int) (ws : List V) (gs : List (List Int)), Kept d c H H' → Deck H' d c t' → t' ≤ t + rs.length → H D = none → H' D = some (.lst ws) → DpAll K H' ws (gs.map rowD) → gs.length ≤ rs.length → RowsOk p n gs → Qd D H') :
    LcGoal (Itl K a) (gName i) tt (tVar i) sl σ H Qd := by
  intro D nD
  have bD := D0.fresh nD
  have lv := dpAll_len hD
  rw [List.length_map] at lv
  refine lc_it (walk_list (K := K) (a := a) (xs := vs)) (fun k H' => Kept d c H H' ∧ ∃ (t' : Int) (ws : List V) (gs : List (List Int)), Deck H' d c t' ∧ t' ≤ t + k ∧ H' D = some (.lst ws) ∧ DpAll K H' ws (gs.map rowD) ∧ gs.length ≤ k ∧ RowsOk p n gs) ⟨Kept.of (same_upd nD), t, [], [], D0.same (same_upd nD), by omega, upd_same, .nil, Nat.le_refl _, fun x hx => nomatch hx⟩ (fun k H' _ hP => .inl (.inl (hP.1 _ _ hA (fun z => bA (.inl z)) (fun z => bA (.inr z))))) (fun k x H1 H2 hk hP hY => ?_) (fun H' hP => ?_)
  · obtain ⟨rfl, e1⟩ := hY
    obtain ⟨k', t', ws, gs, D', ht', eB, dp, ln, ro⟩ := hP
    obtain ⟨b, r, rfl, gr, mr, hb⟩ := dpAll_row hD e1
    refine ⟨hw _, htt _ t' _ _ D' (by omega) fun H3 q k3 D3 => ?_⟩
    have eB3 := k3 _ _ eB (fun z => bD (.inl z)) (fun z => bD (.inr z))
    have dp3 := dpAll_tk (Tk.kept D' k3) _ _ (noL_rows gs) dp
    cases q
    · exact iteF ⟨k'.trans k3, t' + 1, ws, gs, D3, by omega, eB3, dp3, by omega, ro⟩
    · have lw := dpAll_len dp
      rw [List.length_map] at lw
      have tk : Tk H3 (upd H3 D (.lst (ws ++ [.ref b]))) := (Tk.refl _).mut eB3
      refine iteT ⟨.ref b, by rw [List.getElem?_set_self hi], ws, eB3, small1000 (by omega), (k'.trans k3).mut nD, t' + 1, ws ++ [.ref b], gs ++ [r], D3.mut bD, by omega, upd_same, ?_, by rw [List.length_append]; simp only [List.length_cons, List.length_nil]; omega, fun y hy => ?_⟩
      · rw [List.map_append]
        exact dpAll_append (dpAll_tk tk _ _ (noL_rows gs) dp3) (.cons (dp_tk ((Tk.kept D0 (k'.trans k3)).trans tk) (rowD r) _ (noL_row r) (.tup hb (dpAll_ints r))) .nil)
      · rcases List.mem_append.mp hy with h | h
        · exact ro y h
        · rw [List.mem_singleton.mp h]
          exact ok r mr
  · obtain ⟨k', t', ws, gs, D', ht', eB, dp, ln, ro⟩ := hP
    exact hd D H' t' ws gs k' D' (by omega) nD eB dp (by omega) ro
theorem dp_stand {K : PySem.W.Frag} {H : Hp} {v : V} {p : Int} {n : Nat} {kn : List (List Int)} {hs : List (Str × List (List Int))} (h : Dp K H v (standD p n kn hs)) :
    ∃ (a k g : Addr) (wg : List V), v = .ref a ∧ SqT K H a [.int p, .int n, .ref k, .ref g] ∧ RowsAt K H k kn ∧ SqT K H g wg ∧ DpAll K H wg (hs.map handD) := by
  unfold standD at h
  cases h with
  | tup h1 h2 =>
    cases h2 with
    | cons a1 h2 =>
      cases a1
      cases h2 with
      | cons a2 h2 =>
        cases a2
        cases h2 with
        | cons a3 h2 =>
          cases h2 with
          | cons a4 h2 =>
            cases h2
            cases a3 with
            | tup q1 q2 =>
              cases a4 with
              | tup q3 q4 => exact ⟨_, _, _, _, rfl, h1, ⟨_, q1, q2⟩, q3, q4⟩
theorem dp_hand {K : PySem.W.Frag} {H : Hp} {v : V} {h : Str × List (List Int)} (d : Dp K H v (handD h)) : ∃ (b r : Addr), v = .ref b ∧ SqT K H b [.str h.1, .ref r] ∧ RowsAt K H r h.2 := by
  unfold handD at d
  cases d with
  | tup h1 h2 =>
    cases h2 with
    | cons a1 h2 =>
      cases a1
      cases h2 with
      | cons a2 h2 =>
        cases h2
        cases a2 with
        | tup q1 q2 => exact ⟨_, _, rfl, h1, ⟨_, q1, q2⟩⟩
theorem dpAll_hand {K : PySem.W.Frag} {H : Hp} {wg : List V} {hs : List (Str × List (List Int))} {i : Nat} {v : V} (h : DpAll K H wg (hs.map handD)) (e : wg[i]? = some v) : ∃ (b r : Addr) (x : Str × List (List Int)), v = .ref b ∧ hs[i]? = some x ∧ x ∈ hs ∧ SqT K H b [.str x.1, .ref r] ∧ RowsAt K H r x.2 := by
  obtain ⟨d, g, _, dp⟩ := dpAll_get h e
  rw [List.getElem?_map] at g
  obtain ⟨x, hx, rfl⟩ := Option.map_eq_some_iff.mp g
  obtain ⟨b, r, e1, e2, e3⟩ := dp_hand dp
  exact ⟨b, r, x, e1, hx, List.mem_of_getElem? hx, e2, e3⟩
/-- the rows of those hands whose names are asked for -/
def selR (ns : List Str) (hs : List (Str × List (List Int))) : List (List Int) := hs.flatMap fun h => if h.1 ∈ ns then h.2 else []
theorem sel_take {ns : List Str} {hs : List (Str × List (List Int))} {i : Nat} {x : Str × List (List Int)} (h : hs[i]? = some x) : selR ns (hs.take (i + 1)) = selR ns (hs.take i) ++ (if x.1 ∈ ns then x.2 else []) := by
  unfold selR
  rw [List.take_add_one, h, List.flatMap_append]
  congr 1
  simp only [Option.toList, List.flatMap_cons, List.flatMap_nil, List.append_nil]
theorem sel_ok {p : Int} {n : Nat} {ns : List Str} {hs : List (Str × List (List Int))} (h : ∀ x ∈ hs, RowsOk p n x.2) : RowsOk p n (selR ns hs) := by
  intro r hr
  obtain ⟨x, hx, hr⟩ := List.mem_flatMap.mp hr
  by_cases hn : x.1 ∈ ns
  · rw [if_pos hn] at hr
    exact h x hx r hr
  · rw [if_neg hn] at hr
    cases hr
theorem sel_len {ns : List Str} {B : Nat} : ∀ {hs : List (Str × List (List Int))}, (∀ x ∈ hs, x.2.length ≤ B) → (selR ns hs).length ≤ B * hs.length
  | [], _ => Nat.zero_le _
  | x :: hs, h => by
    have a := sel_len (ns := ns) (hs := hs) (fun y hy => h y (List.mem_cons_of_mem _ hy))
    have b := h x List.mem_cons_self
    have e : selR ns (x :: hs) = (if x.1 ∈ ns then x.2 else []) ++ selR ns hs := rfl
    rw [e, List.length_append, List.length_cons, Nat.mul_add, Nat.mul_one]
    by_cases hn : x.1 ∈ ns
    · rw [if_pos hn]
      omega
    · rw [if_neg hn, List.length_nil]
      omega
theorem flat_strs : ∀ ns : List Str, (ns.map V.str).all flatV = true
  | [] => rfl
  | x :: ns => by
    rw [List.map_cons, List.all_cons, flat_strs ns]
    rfl
theorem in_strs (x : Str) (ns : List Str) : inV (.str x) (ns.map V.str) = decide (x ∈ ns) := by
  unfold inV
  rw [List.any_map]
  by_cases h : x ∈ ns
  · rw [decide_eq_true h]
    refine List.any_eq_true.mpr ⟨x, h, ?_⟩
    show (x == x) = true
    exact beq_self_eq_true x
  · rw [decide_eq_false h]
    refine List.any_eq_false.mpr fun y hy e => h ?_
    have e : (y == x) = true := e
    rw [← eq_of_beq e]
    exact hy
end OC

set_option Elab.async false
set_option linter.all false
set_option maxRecDepth 100000
set_option maxHeartbeats 4000000
namespace OC
open PySem PySem.Spec PyProof.Rows L2
/-- a comprehension of drawn rows -/
theorem lc_rows5 {K : PySem.W.Frag} {d c e : Addr} {t p : Int} {n m : Nat} {σ : L2.St} {H : Hp} {Qd : Addr → Hp → Prop} {i : Nat} {sl : List Nat} {te : TE} (D0 : Drw H d c e t) (hm : m ≤ 100) (hw : ∀ x : Option V, wipe ((wipe σ sl).set i x) sl = wipe σ sl)
    (hte : ∀ (x : V) (k : Nat) (t' : Int) (H' : Hp) (Q' : VK), Drw H' d c e t' → t' ≤ t + 20 * k → k < m → (∀ H'' t'' a r, Kept d e H' H'' → Drw H'' d c e t'' → t'' ≤ t' + 20 → H'' a = some (.tup (r.map V.int)) → RowsOk p n [r] → Q' (.ref a) H'') → te ((wipe σ sl).set i (some x)) H' Q')
    (hd : ∀ (D : Addr) (H' : Hp) (t' : Int) (ws : List V) (rs : List (List Int)), Kept d e H H' → Drw H' d c e t' → t' ≤ t + 20 * m → H D = none → H' D = some (.lst ws) → DpAll K H' ws (rs.map rowD) → rs.length = m → RowsOk p n rs → Qd D H') :
    LcGoal (Itr 0 m) (gName i) tYes te sl σ H Qd := by
  intro D nD
  have bD := D0.fresh nD
  refine lc_range (lo := 0) (n := m) (fun k H' => Kept d e H H' ∧ ∃ (t' : Int) (ws : List V) (rs : List (List Int)), Drw H' d c e t' ∧ t' ≤ t + 20 * k ∧ H' D = some (.lst ws) ∧ DpAll K H' ws (rs.map rowD) ∧ rs.length = k ∧ RowsOk p n rs) ⟨Kept.of (same_upd nD), t, [], [], D0.same (same_upd nD), by omega, upd_same, .nil, rfl, fun x hx => (nomatch hx)⟩ (fun k H' hk hW => ?_) (fun H' hW => ?_)
  · obtain ⟨k', t', ws, rs, D', ht', eB, dp, ln, ro⟩ := hW
    refine ⟨hw _, hte _ k t' H' _ D' ht' hk fun H1 t1 a r k1 D1 ht1 ea okr => ?_⟩
    have eB1 := Drw.lst (c := c) k1 bD eB
    have na : D ≠ a := fun z => by subst z; rw [eB1] at ea; cases ea
    have lw := dpAll_len dp
    rw [List.length_map] at lw
    have tk : Tk H1 (upd H1 D (.lst (ws ++ [.ref a]))) := (Tk.refl _).mut eB1
    refine ⟨ws, eB1, small1000 (by omega), (k'.trans k1).mut nD, t1, ws ++ [.ref a], rs ++ [r], D1.mut bD, by omega, upd_same, ?_, by rw [List.length_append, ln]; rfl, fun y hy => ?_⟩
    · rw [List.map_append]
      refine dpAll_append (dpAll_tk tk _ _ (noL_rows rs) (dpAll_tk (D'.tk k1) _ _ (noL_rows rs) dp)) (.cons (.tup (.inl (.inl ?_)) (dpAll_ints r)) .nil)
      rw [upd_ne (Ne.symm na)]
      exact ea
    · rcases List.mem_append.mp hy with h | h
      · exact ro y h
      · rw [List.mem_singleton.mp h]
        exact okr r List.mem_cons_self
  · obtain ⟨k', t', ws, rs, D', ht', eB, dp, ln, ro⟩ := hW
    exact hd D H' t' ws rs k' D' ht' nD eB dp ln ro
/-- some rows of a list, drawn -/
theorem lc_pick5 {K : PySem.W.Frag} {d c e a : Addr} {t p : Int} {n : Nat} {vs : List V} {rs : List (List Int)} {σ : L2.St} {H : Hp} {Qd : Addr → Hp → Prop} {i : Nat} {sl : List Nat} {tt : TT} (D0 : Drw H d c e t) (hA : H a = some (.lst vs)) (bA : ¬ Bd3 d c e a) (hD : DpAll K H vs (rs.map rowD)) (ok : RowsOk p n rs) (hm : rs.length ≤ 100) (hw : ∀ x : Option V, wipe ((wipe σ sl).set i x) sl = wipe σ sl) (hi : i < (wipe σ sl).length)
    (htt : ∀ (v : V) (t' : Int) (H' : Hp) (Q' : Bool → Hp → Prop), Drw H' d c e t' → t' ≤ t + 100 → (∀ H'' (b : Bool), Kept d e H' H'' → Drw H'' d c e (t' + 1) → Q' b H'') → tt ((wipe σ sl).set i (some v)) H' Q')
    (hd : ∀ (D : Addr) (H' : Hp) (t' : Int) (ws : List V) (gs : List (List Int)), Kept d e H H' → Drw H' d c e t' → t' ≤ t + rs.length → H D = none → H' D = some (.lst ws) → DpAll K H' ws (gs.map rowD) → gs.length ≤ rs.length → RowsOk p n gs → Qd D H') :
    LcGoal (Itl K a) (gName i) tt (tVar i) sl σ H Qd := by
  intro D nD
  have bD := D0.fresh nD
  have lv := dpAll_len hD
  rw [List.length_map] at lv
  refine lc_it (walk_list (K := K) (a := a) (xs := vs)) (fun k H' => Kept d e H H' ∧ ∃ (t' : Int) (ws : List V) (gs : List (List Int)), Drw H' d c e t' ∧ t' ≤ t + k ∧ H' D = some (.lst ws) ∧ DpAll K H' ws (gs.map rowD) ∧ gs.length ≤ k ∧ RowsOk p n gs) ⟨Kept.of (same_upd nD), t, [], [], D0.same (same_upd nD), by omega, upd_same, .nil, Nat.le_refl _, fun x hx => (nomatch hx)⟩ (fun k H' _ hP => .inl (.inl (Drw.lst (c := c) hP.1 bA hA))) (fun k x H1 H2 hk hP hY => ?_) (fun H' hP => ?_)
  · obtain ⟨rfl, e1⟩ := hY
    obtain ⟨k', t', ws, gs, D', ht', eB, dp, ln, ro⟩ := hP
    obtain ⟨b, r, rfl, gr, mr, hb⟩ := dpAll_row hD e1
    refine ⟨hw _, htt _ t' _ _ D' (by omega) fun H3 q k3 D3 => ?_⟩
    have eB3 := Drw.lst (c := c) k3 bD eB
    have dp3 := dpAll_tk (D'.tk k3) _ _ (noL_rows gs) dp
    cases q
    · exact iteF ⟨k'.trans k3, t' + 1, ws, gs, D3, by omega, eB3, dp3, by omega, ro⟩
    · have lw := dpAll_len dp
      rw [List.length_map] at lw
      have tk : Tk H3 (upd H3 D (.lst (ws ++ [.ref b]))) := (Tk.refl _).mut eB3
      refine iteT ⟨.ref b, by rw [List.getElem?_set_self hi], ws, eB3, small1000 (by omega), (k'.trans k3).mut nD, t' + 1, ws ++ [.ref b], gs ++ [r], D3.mut bD, by omega, upd_same, ?_, by rw [List.length_append]; simp only [List.length_cons, List.length_nil]; omega, fun y hy => ?_⟩
      · rw [List.map_append]
        exact dpAll_append (dpAll_tk tk _ _ (noL_rows gs) dp3) (.cons (dp_tk ((D0.tk (k'.trans k3)).trans tk) (rowD r) _ (noL_row r) (.tup hb (dpAll_ints r))) .nil)
      · rcases List.mem_append.mp hy with h | h
        · exact ro y h
        · rw [List.mem_singleton.mp h]
          exact ok r mr
  · obtain ⟨k', t', ws, gs, D', ht', eB, dp, ln, ro⟩ := hP
    exact hd D H' t' ws gs k' D' (by omega) nD eB dp (by omega) ro
def roomD (room : List (List Int)) : PyData := .tuple (room.map rowD)
theorem noL_rooms : ∀ rms : List (List (List Int)), noLAll (rms.map roomD) = true
  | [] => rfl
  | r :: rms => by
    rw [List.map_cons]
    simp only [noLAll, roomD, noL, noL_rows, Bool.true_and]
    exact noL_rooms rms
theorem dpAll_room {K : PySem.W.Frag} {H : Hp} {vs : List V} {rms : List (List (List Int))} {i : Nat} {v : V} (h : DpAll K H vs (rms.map roomD)) (e : vs[i]? = some v) : ∃ a r, v = .ref a ∧ rms[i]? = some r ∧ r ∈ rms ∧ RowsAt K H a r := by
  obtain ⟨d, g, _, dp⟩ := dpAll_get h e
  rw [List.getElem?_map] at g
  obtain ⟨x, hx, rfl⟩ := Option.map_eq_some_iff.mp g
  unfold roomD at dp
  cases dp with
  | tup h1 h2 => exact ⟨_, x, rfl, hx, List.mem_of_getElem? hx, _, h1, h2⟩
/-- the rooms of those hands whose names are asked for -/
def roomsR (ns : List Str) (hs : List (Str × List (List Int))) : List (List (List Int)) := (hs.filter fun h => decide (h.1 ∈ ns)).map Prod.snd
theorem rooms_take {ns : List Str} {hs : List (Str × List (List Int))} {i : Nat} {x : Str × List (List Int)} (h : hs[i]? = some x) : roomsR ns (hs.take (i + 1)) = roomsR ns (hs.take i) ++ (if x.1 ∈ ns then [x.2] else []) := by
  unfold roomsR
  rw [List.take_add_one, h, List.filter_append, List.map_append]
  congr 1
  by_cases hx : x.1 ∈ ns
  · rw [if_pos hx, show (some x).toList = [x] from rfl, List.filter_cons_of_pos (p := fun (h : Str × List (List Int)) => decide (h.1 ∈ ns)) (decide_eq_true hx)]
    rfl
  · rw [if_neg hx, show (some x).toList = [x] from rfl, List.filter_cons_of_neg (p := fun (h : Str × List (List Int)) => decide (h.1 ∈ ns)) (fun z => hx (of_decide_eq_true z))]
    rfl
/-- a drawn stand -/
structure Stand5 (p : Int) (n : Nat) (kn : List (List Int)) (hs : List (Str × List (List Int))) : Prop where
  fld : Fld p
  p1 : p ≤ 1000
  n1 : 1 ≤ n
  n8 : n ≤ 8
  pk : PFR p n kn
  ph : ∀ h ∈ hs, PFR p n h.2
  inn : ∀ h ∈ hs, ∀ r ∈ kn, InR p h.2 r
  few : 2 ≤ hs.length
  many : hs.length ≤ 9
  srt : sortedS (hs.map Prod.fst) = true
  nd : (hs.map Prod.fst).Nodup
  nm : ∀ x ∈ hs.map Prod.fst, NameOk x
def strOf : PyData → Str
  | .str x => x
  | _ => ""
theorem rep_strs {K : PySem.W.Frag} {H : Hp} {bad : Addr → Prop} : ∀ ns : List Str, RepAll K H bad (ns.map V.str) (ns.map PyData.str)
  | [] => .nil
  | x :: ns => .cons (.str x) (rep_strs ns)
theorem all_strs (q : Str → Bool) (ns : List Str) : ((ns.map PyData.str).all fun d => q (strOf d)) = ns.all q := by
  rw [List.all_map]
  rfl
theorem filter_sub {l s : List Str} (h : s.Sublist l) : l.Nodup → l.filter (fun x => decide (x ∈ s)) = s := by
  induction h with
  | slnil => intro _; rfl
  | cons a h ih =>
    rename_i s' l'
    intro nd
    obtain ⟨n1, n2⟩ := List.nodup_cons.mp nd
    rw [List.filter_cons_of_neg (p := fun x => decide (x ∈ s')) (fun z => n1 (h.subset (of_decide_eq_true z)))]
    exact ih n2
  | cons_cons a h ih =>
    rename_i s' l'
    intro nd
    obtain ⟨n1, n2⟩ := List.nodup_cons.mp nd
    rw [List.filter_cons_of_pos (p := fun x => decide (x ∈ a :: s')) (decide_eq_true List.mem_cons_self)]
    congr 1
    have e : l'.filter (fun x => decide (x ∈ a :: s')) = l'.filter (fun x => decide (x ∈ s')) := List.filter_congr fun x hx => by
      refine decide_eq_decide.mpr ⟨fun z => ?_, fun z => List.mem_cons_of_mem _ z⟩
      rcases List.mem_cons.mp z with rfl | z
      · exact absurd hx n1
      · exact z
    rw [e]
    exact ih n2
theorem rooms_len {ns : List Str} {hs : List (Str × List (List Int))} (sub : ns.Sublist (hs.map Prod.fst)) (nd : (hs.map Prod.fst).Nodup) : (roomsR ns hs).length = ns.length := by
  have e := congrArg List.length (filter_sub sub nd)
  rw [List.filter_map, List.length_map] at e
  unfold roomsR
  rw [List.length_map]
  exact e
theorem sel_rooms {ns : List Str} : ∀ hs : List (Str × List (List Int)), selR ns hs = (roomsR ns hs).flatten
  | [] => rfl
  | h :: hs => by
    have e : selR ns (h :: hs) = (if h.1 ∈ ns then h.2 else []) ++ selR ns hs := rfl
    rw [e, sel_rooms hs]
    unfold roomsR
    by_cases hn : h.1 ∈ ns
    · rw [if_pos hn, List.filter_cons_of_pos (p := fun (h : Str × List (List Int)) => decide (h.1 ∈ ns)) (decide_eq_true hn), List.map_cons, List.flatten_cons]
    · rw [if_neg hn, List.filter_cons_of_neg (p := fun (h : Str × List (List Int)) => decide (h.1 ∈ ns)) (fun z => hn (of_decide_eq_true z))]
      rfl
end OC

set_option Elab.async false
set_option linter.all false
set_option maxRecDepth 100000
set_option maxHeartbeats 4000000
/-! what repr asks, with bounds; comprehensions of things with old lists in them -/
namespace OC
open PySem PySem.Spec PyProof.Rows L2
structure FitZ (B k : Nat) (d : PyData) : Prop where
  len : d.shown.length ≤ B
  sh : d.showable = true
  dp : d.depth ≤ k
theorem FitZ.mono {B B' k k' : Nat} {d : PyData} (h : FitZ B k d) (hB : B ≤ B') (hk : k ≤ k') : FitZ B' k' d := ⟨Nat.le_trans h.len hB, h.sh, Nat.le_trans h.dp hk⟩
theorem FitZ.fit {B k : Nat} {d : PyData} (h : FitZ B k d) (hB : B ≤ 10000000) (hk : k ≤ 55) : FitS d := ⟨Nat.le_trans h.len hB, h.sh, Nat.le_trans h.dp hk⟩
theorem FitB.z {B k : Nat} {d : PyData} (h : FitB B k d) : FitZ B k d := ⟨h.len, h.sh, h.dp⟩
theorem fitz_int {i : Int} (h0 : -1000000 ≤ i) (h1 : i ≤ 1000000) : FitZ 50 0 (.int i) := (fit_int (Nat.lt_of_le_of_lt (show i.natAbs ≤ 1000000 by omega) (by decide))).z
theorem fitz_tuple {B k n : Nat} {ds : List PyData} (hl : ds.length ≤ n) (h : ∀ d ∈ ds, FitZ B k d) : FitZ (n * (B + 2) + 3) (k + 1) (.tuple ds) := by
  refine ⟨?_, ?_, ?_⟩
  · simp only [PyData.shown]
    refine Nat.le_trans (tupleText_len_le _) ?_
    rw [shownAll_map, List.length_map]
    have h1 := sum_le (B := B) (ts := ds.map PyData.shown) fun t ht => by
      obtain ⟨d, m, rfl⟩ := List.mem_map.mp ht
      exact (h d m).len
    rw [List.length_map] at h1
    have h2 : ds.length * (B + 2) ≤ n * (B + 2) := Nat.mul_le_mul_right _ hl
    rw [Nat.mul_add] at h2
    omega
  · simp only [PyData.showable]
    exact showAll_of fun d m => (h d m).sh
  · simp only [PyData.depth]
    have := depthAll_of fun d m => (h d m).dp
    omega
theorem fitz_list {B k n : Nat} {ds : List PyData} (hl : ds.length ≤ n) (h : ∀ d ∈ ds, FitZ B k d) : FitZ (n * (B + 2) + 3) (k + 1) (.list ds) := by
  refine ⟨?_, ?_, ?_⟩
  · simp only [PyData.shown]
    refine Nat.le_trans (listText_len_le _) ?_
    rw [shownAll_map, List.length_map]
    have h1 := sum_le (B := B) (ts := ds.map PyData.shown) fun t ht => by
      obtain ⟨d, m, rfl⟩ := List.mem_map.mp ht
      exact (h d m).len
    rw [List.length_map] at h1
    have h2 : ds.length * (B + 2) ≤ n * (B + 2) := Nat.mul_le_mul_right _ hl
    rw [Nat.mul_add] at h2
    omega
  · simp only [PyData.showable]
    exact showAll_of fun d m => (h d m).sh
  · simp only [PyData.depth]
    have := depthAll_of fun d m => (h d m).dp
    omega
theorem fitz_name {x : Str} (h : NameOk x) : FitZ 82 0 (.str x) := by
  refine ⟨?_, by simp [PyData.showable], by simp [PyData.depth]⟩
  simp only [PyData.shown]
  have := PySem.StrLaws.reprText_len x fun c hc => Nat.lt_of_le_of_lt (h.2.2 c hc).2 (by decide)
  have := h.2.1
  omega
/-- a thing within a thing -/
structure OkE (d : PyData) : Prop where
  l : lenOk d
  f : FitZ 600 2 d
/-- a thing that is asked about -/
structure OkZ (d : PyData) : Prop where
  l : lenOk2 d
  m : match d with | .tuple ds => ds.length ≤ 50 | _ => True
  f : FitZ 30103 3 d
theorem okE_ints {r : List Int} (h : ∀ x ∈ r, -1000000 ≤ x ∧ x ≤ 1000000) (hl : r.length ≤ 10) : OkE (rowD r) :=
  ⟨by show (r.map PyData.int).length ≤ 1000; rw [List.length_map]; omega, (fitz_tuple (n := 10) (by rw [List.length_map]; exact hl) fun d m => by
    obtain ⟨x, mx, rfl⟩ := List.mem_map.mp m
    exact fitz_int (h x mx).1 (h x mx).2).mono (by decide) (by decide)⟩
theorem okE_list {r : List Int} (h : ∀ x ∈ r, -1000000 ≤ x ∧ x ≤ 1000000) (hl : r.length ≤ 10) : OkE (.list (r.map PyData.int)) :=
  ⟨True.intro, (fitz_list (n := 10) (by rw [List.length_map]; exact hl) fun d m => by
    obtain ⟨x, mx, rfl⟩ := List.mem_map.mp m
    exact fitz_int (h x mx).1 (h x mx).2).mono (by decide) (by decide)⟩
theorem fitz_bool (b : Bool) : FitZ 50 0 (.bool b) := by cases b <;> exact ⟨by decide +kernel, by decide +kernel, by decide +kernel⟩
theorem fitz_none : FitZ 50 0 .none := ⟨by decide +kernel, by decide +kernel, by decide +kernel⟩
theorem okE_mixed {b : Bool} {r : List Int} (h : ∀ x ∈ r, -1000000 ≤ x ∧ x ≤ 1000000) (hl : r.length ≤ 9) : OkE (.tuple (.bool b :: r.map PyData.int)) :=
  ⟨by show (PyData.bool b :: r.map PyData.int).length ≤ 1000; rw [List.length_cons, List.length_map]; omega, (fitz_tuple (n := 10) (by rw [List.length_cons, List.length_map]; omega) fun d m => by
    rcases List.mem_cons.mp m with rfl | m
    · exact fitz_bool b
    · obtain ⟨x, mx, rfl⟩ := List.mem_map.mp m
      exact fitz_int (h x mx).1 (h x mx).2).mono (by decide) (by decide)⟩
theorem okE_none : OkE .none := ⟨True.intro, fitz_none.mono (by decide) (by decide)⟩
theorem okZ_tuple {ds : List PyData} (hl : ds.length ≤ 50) (h : ∀ d ∈ ds, OkE d) : OkZ (.tuple ds) :=
  ⟨⟨by omega, fun x hx => (h x hx).l⟩, hl, fitz_tuple (n := 50) hl fun d m => (h d m).f⟩
theorem okZ_list {ds : List PyData} (hl : ds.length ≤ 50) (h : ∀ d ∈ ds, OkE d) : OkZ (.list ds) :=
  ⟨True.intro, True.intro, fitz_list (n := 50) hl fun d m => (h d m).f⟩
theorem okE_row {p : Int} {n : Nat} {r : List Int} (hp : p ≤ 1000) (hn : n ≤ 8) (h : RowsOk p n [r]) : OkE (rowD r) := by
  obtain ⟨h1, h2⟩ := h r List.mem_cons_self
  exact okE_ints (fun x hx => by have := h2 x hx; omega) (by omega)
theorem okE_rows {p : Int} {n : Nat} {rs : List (List Int)} (hp : p ≤ 1000) (hn : n ≤ 8) (h : RowsOk p n rs) : ∀ d ∈ rs.map rowD, OkE d := fun d m => by
  obtain ⟨r, mr, rfl⟩ := List.mem_map.mp m
  exact okE_row hp hn (rowsOk_one (h r mr))
theorem fitz_rows {p : Int} {n : Nat} {rs : List (List Int)} (hp : p ≤ 1000) (hn : n ≤ 8) (h : RowsOk p n rs) (hl : rs.length ≤ 8) : FitZ 4819 3 (.tuple (rs.map rowD)) := fitz_tuple (n := 8) (by rw [List.length_map]; exact hl) fun d m => (okE_rows hp hn h d m).f
theorem fitz_stand {p : Int} {n : Nat} {kn : List (List Int)} {hs : List (Str × List (List Int))} (S : Stand5 p n kn hs) : FitZ 400000 6 (standD p n kn hs) := by
  have n8 := S.n8
  have p1 := S.p1
  have p2 := S.fld.1
  have lk := PFR.len S.fld S.pk
  have hands : FitZ 99990 5 (.tuple (hs.map handD)) := by
    refine (fitz_tuple (B := 9645) (k := 4) (n := 9) (by rw [List.length_map]; exact S.many) fun d m => ?_).mono (by decide) (by decide)
    obtain ⟨h, mh, rfl⟩ := List.mem_map.mp m
    unfold handD
    refine (fitz_tuple (B := 4819) (k := 3) (n := 2) (Nat.le_refl _) fun d m => ?_).mono (by decide) (by decide)
    have lh := PFR.len S.fld (S.ph h mh)
    simp only [List.mem_cons, List.not_mem_nil, or_false] at m
    rcases m with rfl | rfl
    · exact (fitz_name (S.nm _ (List.mem_map_of_mem mh))).mono (by decide) (by decide)
    · exact fitz_rows p1 n8 (S.ph h mh).1 (by omega)
  unfold standD
  refine (fitz_tuple (B := 99990) (k := 5) (n := 4) (Nat.le_refl _) fun d m => ?_).mono (by decide) (by decide)
  simp only [List.mem_cons, List.not_mem_nil, or_false] at m
  rcases m with rfl | rfl | rfl | rfl
  · exact (fitz_int (by omega) (by omega)).mono (by decide) (by decide)
  · exact (fitz_int (by omega) (by omega)).mono (by decide) (by decide)
  · exact (fitz_rows p1 n8 S.pk.1 (by omega)).mono (by decide) (by decide)
  · exact hands
theorem fitz_names {ns : List Str} (h : ∀ x ∈ ns, NameOk x) (hl : ns.length ≤ 9) : FitZ 1000 1 (.tuple (ns.map PyData.str)) :=
  (fitz_tuple (n := 9) (by rw [List.length_map]; exact hl) fun d m => by
    obtain ⟨x, mx, rfl⟩ := List.mem_map.mp m
    exact fitz_name (h x mx)).mono (by decide) (by decide)
/-- a drawing keeps things whose lists are none of the three -/
theorem Stays.drw {bad : Addr → Prop} {d c e : Addr} {t : Int} {H H' : Hp} (D : Drw H d c e t) (k : Kept d e H H') (bd : bad d) (be : bad e) : Stays bad H H' := by
  obtain ⟨cells, rests, h1, h2, _⟩ := D.hc
  refine ⟨D.tk k, fun a xs h => k a _ h (fun z => ?_) (fun z => ?_), fun a xs h nb => k a _ h (fun z => nb (by rw [z]; exact bd)) (fun z => nb (by rw [z]; exact be))⟩
  · subst z; rw [D.hd] at h; cases h
  · subst z; rw [h2] at h; cases h
theorem Drw.some {d c e : Addr} {t : Int} {H : Hp} (D : Drw H d c e t) {a : Addr} (b : Bd3 d c e a) : H a ≠ none := by
  obtain ⟨cells, rests, h1, h2, _⟩ := D.hc
  rcases b with z | z | z
  · subst z; rw [D.hd]; exact fun z => nomatch z
  · subst z; rw [h1]; exact fun z => nomatch z
  · subst z; rw [h2]; exact fun z => nomatch z
theorem rep_new3 {K : PySem.W.Frag} {H H' : Hp} {d c e : Addr} {t : Int} {v : V} {x : PyData} (D : Drw H d c e t) (r : Rep K H' (fun a => H a ≠ none) v x) : Rep K H' (Bd3 d c e) v x := rep_weak (fun _ hb => D.some hb) _ _ r
theorem Drw.more {d c e : Addr} {t : Int} {H H' : Hp} (D : Drw H d c e t) (D' : ∃ t', Drw H' d c e t') (k : Kept d e H H') {a : Addr} (h : H a ≠ none) : H' a ≠ none := by
  obtain ⟨t', D'⟩ := D'
  rcases hq : H a with _ | o
  · exact absurd hq h
  · by_cases z1 : a = d
    · exact D'.some (.inl z1)
    · by_cases z2 : a = e
      · exact D'.some (.inr (.inr z2))
      · rw [k a o hq z1 z2]; exact fun z => nomatch z
/-- [f(x) for x in xs], where old lists may stand in the new things -/
theorem lc_mapS {K : PySem.W.Frag} {J : It} {G : Hp → Prop} {vs : List V} {ds : List PyData} {σ : L2.St} {H : Hp} {Qd : Addr → Hp → Prop} {i : Nat} {sl : List Nat} {te : TE} {bad : Addr → Prop} (F : PyData → PyData)
    (w : Walk J vs.length G (YAt vs)) (hG : ∀ H', Same H H' → G H') (hD : RepAll K H bad vs ds) (hz : vs.length ≤ 1000) (hw : ∀ x : Option V, wipe ((wipe σ sl).set i x) sl = wipe σ sl)
    (hte : ∀ (v : V) (d : PyData) (H' : Hp) (Q' : VK) (bad' : Addr → Prop), d ∈ ds → Rep K H' bad' v d → Same H H' → (∀ v' H'', Same H' H'' → Rep K H'' bad' v' (F d) → Q' v' H'') → te ((wipe σ sl).set i (some v)) H' Q')
    (hd : ∀ D H' ws, Same H H' → H D = none → H' D = some (.lst ws) → RepAll K H' bad ws (ds.map F) → Qd D H') :
    LcGoal J (gName i) tYes te sl σ H Qd := by
  intro D nD
  have lv := repAll_len hD
  have hD' := repAll_fresh nD _ _ hD
  refine lc_it w (fun k H' => Same H H' ∧ ∃ ws, H' D = some (.lst ws) ∧ ws.length = k ∧ RepAll K H' (fun a => bad a ∨ a = D) ws ((ds.take k).map F)) ⟨same_mut (Same.refl H) nD, [], upd_same, rfl, .nil⟩ (fun k H' _ hP => hG H' hP.1) (fun k x H1 H2 hk hP hY => ?_) (fun H' hP => ?_)
  · obtain ⟨rfl, e1⟩ := hY
    obtain ⟨sm, ws, eD, lw, rw_⟩ := hP
    obtain ⟨d, g, md, rx⟩ := repAll_get hD' e1
    refine ⟨hw _, hte x d _ _ (fun a => bad a ∨ a = D) md (rep_stays (Stays.of sm) _ _ rx) sm fun v' H'' s2 rv => ?_⟩
    have eD2 := s2 _ _ eD
    refine ⟨ws, eD2, small1000 (by omega), same_mut (sm.trans s2) nD, ws ++ [v'], upd_same, by rw [List.length_append, lw]; rfl, ?_⟩
    rw [List.take_add_one, g, List.map_append]
    exact repAll_append (repAll_stays (upd_stays (Stays.of s2) eD2 (.inr rfl)) _ _ rw_) (.cons (rep_stays (upd_stays (Stays.of (Same.refl H'')) eD2 (.inr rfl)) _ _ rv) .nil)
  · obtain ⟨sm, ws, eD, lw, rw_⟩ := hP
    rw [List.take_of_length_le (by omega)] at rw_
    exact hd D H' ws sm nD eD (repAll_weak (fun a h => .inl h) _ _ rw_)
mutual
/-- data without lists, as a thing -/
theorem rep_noL {K : PySem.W.Frag} {H : Hp} {bad : Addr → Prop} : ∀ (d : PyData) (v : V), noL d = true → Dp K H v d → Rep K H bad v d
  | .none, _, _, h => by cases h; exact .non
  | .bool b, _, _, h => by cases h; exact .bl b
  | .int i, _, _, h => by cases h; exact .int i
  | .str x, _, _, h => by cases h; exact .str x
  | .list ds, _, n, _ => by simp [noL] at n
  | .dict ds, _, _, h => by cases h
  | .tuple ds, _, n, h => by
    cases h with
    | tup h1 h2 => exact .tup h1 (repAll_noL ds _ (by simpa [noL] using n) h2)
theorem repAll_noL {K : PySem.W.Frag} {H : Hp} {bad : Addr → Prop} : ∀ (ds : List PyData) (vs : List V), noLAll ds = true → DpAll K H vs ds → RepAll K H bad vs ds
  | [], _, _, h => by cases h; exact .nil
  | d :: ds, _, n, h => by
    have n' : noL d = true ∧ noLAll ds = true := by simpa [noLAll] using n
    cases h with
    | cons h1 h2 => exact .cons (rep_noL d _ n'.1 h1) (repAll_noL ds _ n'.2 h2)
end
end OC

set_option Elab.async false
set_option linter.all false
set_option maxRecDepth 100000
set_option maxHeartbeats 2000000
/-! zip of a list and a tuple -/
namespace OC
open PySem PySem.Spec PyProof.Rows L2
/-- the list at a and the tuple at b as they stand at each turn, the items in new pairs -/
def ItzM (K : PySem.W.Frag) (a b : Addr) : It :=
  ⟨fun i H => ∃ (xs ys : List V) (x y : V), SqL K H a xs ∧ SqT K H b ys ∧ xs[i]? = some x ∧ ys[i]? = some y,
    fun i H v H' => ∃ T x y, v = .ref T ∧ H T = none ∧ H' = upd H T (.tup [x, y]) ∧ (∀ xs, SqL K H a xs → xs[i]? = some x) ∧ ∀ ys, SqT K H b ys → ys[i]? = some y,
    fun i H => ∃ xs ys : List V, SqL K H a xs ∧ SqT K H b ys ∧ i ≤ xs.length ∧ i ≤ ys.length ∧ (i = xs.length ∨ i = ys.length)⟩
theorem sep_of {z TI TO i1 i2 l1 l2 : Addr} (D : ZipApart z TI TO i1 i2 l1 l2) : ZipSep2 z TI TO i1 i2 [i1, l1] [i2, l2] where
  TIz := D.TIz
  TOz := D.TOz
  TITO := D.TITO
  TIi1 := D.TIi1
  mem1 := by simp
  zf1 := by simp; exact ⟨Ne.symm D.i1z, Ne.symm D.l1z⟩
  Tf1 := by simp; exact ⟨D.TOi1, Ne.symm D.l1TO⟩
  TIi2 := D.TIi2
  mem2 := by simp
  zf2 := by simp; exact ⟨Ne.symm D.i2z, Ne.symm D.l2z⟩
  Tf2 := by simp; exact ⟨D.TOi2, Ne.symm D.l2TO⟩
  sep1_2 := by simp; exact ⟨D.i12, Ne.symm D.l2i1⟩
  sep2_1 := by simp; exact ⟨Ne.symm D.i12, Ne.symm D.l1i2⟩
theorem turn_zipM {P : Program} {w : World} {K : PySem.W.Frag} {elts : List Expr} {kk : Nat} {tpos : Pos} {a b z TI TO i1 i2 : Addr} (D : ZipApart z TI TO i1 i2 a b) :
    Turn P w K (.Tuple elts kk tpos) (ItzM K a b) [z, TI, TO, i1, i2] z (fun i h => IsZip h z TI TO .none ∧ IsTupOf2 h TI (.ref i1) (.ref i2) ∧ (∃ x y, IsTupOf2 h TO x y) ∧ h.IsListIter i1 a i ∧ h.IsTupleIter i2 b i) where
  mem := by simp
  obj := fun i h st c hc => by
    obtain ⟨hz, hTI, ⟨x, y, hTO⟩, ⟨o1, e1, _, d1⟩, ⟨o2, e2, _, d2⟩⟩ := st
    have e' : c = z ∨ c = TI ∨ c = TO ∨ c = i1 ∨ c = i2 := by simpa using hc
    rcases e' with q | q | q | q | q
    · rw [q]; exact ⟨_, hz, fun v q => nomatch q⟩
    · rw [q]; exact ⟨_, hTI, fun v q => nomatch q⟩
    · rw [q]; exact ⟨_, hTO, fun v q => nomatch q⟩
    · rw [q]; exact ⟨o1, e1, fun v q => by rw [d1] at q; cases q⟩
    · rw [q]; exact ⟨o2, e2, fun v q => by rw [d2] at q; cases q⟩
  keep := fun i h h' st k => by
    obtain ⟨hz, hTI, ⟨x, y, hTO⟩, h1, h2⟩ := st
    exact ⟨k z (by simp) _ hz, k TI (by simp) _ hTI, ⟨x, y, k TO (by simp) _ hTO⟩, h1.at fun o q => k i1 (by simp) o q, h2.at fun o q => k i2 (by simp) o q⟩
  item := by
    intro X hP hw hK hc i pins s σ H E I hf st hg
    subst hP hw hK
    obtain ⟨hz, hTI, ⟨x0, y0, hTO⟩, h1, h2⟩ := st
    obtain ⟨xs, ys, x, y, hqx, hqy, hx, hy⟩ := hg
    obtain ⟨its, rv, p, _⟩ := I.list hqx
    obtain ⟨its2, rv2, p2, _⟩ := I.tuple hqy
    obtain ⟨u, hu, ru⟩ := rv.get hx
    obtain ⟨u2, hu2, ru2⟩ := rv2.get hy
    have hzl : z < s.heap.objs.size := Heap.lt_size hz
    have hh : X.A.in1.handled = none := I.ok.hd hc
    refine wpAny_pyNext_zipD2_item (sep_of D) (Draws.list hh i1 a D.l1i1 its.toArray) (Draws.tuple hh i2 b D.l2i2 its2.toArray) hz hTI hTO ⟨h1, p.isList⟩ ⟨h2, p2⟩ ?_ ?_ fun x1 x2 h' tk y1 y2 z' TO' st1' st2' hT hsz hk => ?_
    · have := (List.getElem?_eq_some_iff.mp hu).1
      simpa using this
    · have := (List.getElem?_eq_some_iff.mp hu2).1
      simpa using this
    have e1 : x1 = u := by
      have : its[i]? = some x1 := by simpa using y1
      rw [hu] at this
      exact (Option.some.inj this).symm
    have e2 : x2 = u2 := by
      have : its2[i]? = some x2 := by simpa using y2
      rw [hu2] at this
      exact (Option.some.inj this).symm
    subst e1 e2
    refine ⟨_, rfl, wpAny_letOwnedTupleGo_zip (s := { s with heap := h', toks := tk }) z' fun h'' z'' sb => ?_⟩
    have hT2 : h''.get? s.heap.objs.size = some { cls := .type "tuple", data := .seq #[x1, x2] } := (sb.2 _ (Nat.ne_of_gt hzl)).trans hT
    have new : ObjOk X.prog X.w (upd H s.heap.objs.size (.tup [x, y])) h'' s.heap.objs.size (.tup [x, y]) :=
      ⟨by show 2 ≤ sizeLine; decide, [x1, x2], .cons ru (.cons ru2 .nil), ⟨_, hT2, rfl, _, rfl⟩⟩
    have I1 : Inv X pins σ (upd H s.heap.objs.size (.tup [x, y])) { s with heap := h'', toks := tk } :=
      I.turnedNew (t' := tk) (ch := [z, TI, TO, i1, i2]) (fun c o hb q => (sb.2 c (fun q' => hb (by simp [q']))).trans (hk c o (fun q' => hb (by simp [q'])) (fun q' => hb (by simp [q'])) (fun q' => hb (by simp [q'])) (fun q' => hb (by simp [q'])) q)) hf (Nat.le_refl _) new
    refine ⟨.ref s.heap.objs.size, _, I1, rfl, ⟨_, x, y, rfl, I.hok.fresh (Nat.le_refl _), rfl, fun l hl => by rw [I.list_inj hl hqx]; exact hx, fun l hl => by rw [I.tuple_inj hl hqy]; exact hy⟩, ⟨z'', ?_, ⟨x1, x2, ?_⟩, ?_, ?_⟩, fun c hcm => ?_⟩
    · exact (sb.2 _ D.TIz).trans (hk _ _ D.TIz D.TITO D.TIi1 D.TIi2 hTI)
    · exact (sb.2 _ D.TOz).trans TO'
    · exact st1'.1.at fun o q => (sb.2 _ D.i1z).trans q
    · exact st2'.1.at fun o q => (sb.2 _ D.i2z).trans q
    · have hlt : c < s.heap.objs.size := by
        have e' : c = z ∨ c = TI ∨ c = TO ∨ c = i1 ∨ c = i2 := by simpa using hcm
        rcases e' with q | q | q | q | q
        · rw [q]; exact hzl
        · rw [q]; exact Heap.lt_size hTI
        · rw [q]; exact Heap.lt_size hTO
        · rw [q]; obtain ⟨_, e1, _⟩ := h1; exact Heap.lt_size e1
        · rw [q]; obtain ⟨_, e2, _⟩ := h2; exact Heap.lt_size e2
      rw [upd_ne (Nat.ne_of_lt hlt)]
      exact (hf c hcm).1
  done := by
    intro X hP hw hK hc i pins s σ H E I hf st hg
    subst hP hw hK
    obtain ⟨hz, hTI, ⟨x0, y0, hTO⟩, h1, h2⟩ := st
    obtain ⟨xs, ys, hqx, hqy, le1, le2, hend⟩ := hg
    obtain ⟨its, rv, p, _⟩ := I.list hqx
    obtain ⟨its2, rv2, p2, _⟩ := I.tuple hqy
    have l1 := rv.length
    have l2 := rv2.length
    have hh : X.A.in1.handled = none := I.ok.hd hc
    have sz1 : its.toArray.size = its.length := by simp
    have sz2 : its2.toArray.size = its2.length := by simp
    exact wpAny_pyNext_zipD2_end (sep_of D) (Draws.list hh i1 a D.l1i1 its.toArray) (Draws.tuple hh i2 b D.l2i2 its2.toArray) hz hTI hTO ⟨h1, p.isList⟩ ⟨h2, p2⟩ (by omega) (by omega) (by omega) fun h' tk hk => ⟨rfl, I.turnedL (t' := tk) (ch := [z, TI, TO, i1, i2]) (fun c o hb q =>
      hk c o (fun q' => hb (by simp [q'])) (fun q' => hb (by simp [q'])) (fun q' => hb (by simp [q'])) (fun q' => hb (by simp [q'])) q) hf⟩
  self := fun A i s Q E st h => wpAny_pyIter_zip st.1 h
/-- zip(xs, ys): two lists, two tuples, or a list and a tuple -/
def iZipM (K : PySem.W.Frag) (ta : TA) : TI := fun σ H R => ta σ H fun vs H1 => ∃ a b xs ys, vs = [.ref a, .ref b] ∧ SqL K H1 a xs ∧ SqT K H1 b ys ∧ R (ItzM K a b) H1
theorem pi_zipM {X : Cx} {e e2 : Expr} {ta : TA} {p pos tpos : Pos} {elts : List Expr} {kk : Nat} (hg : Gl X "zip") (hm : X.mg "zip" = none) (ha : PA X [e, e2] ta)
    (hs : starEach [e, e2] X.env = (false, eval e X.env) :: starEach [e2] X.env := by rfl) (hpl : (backTo pos (starEach [e2] X.env)).any (·.1) = false := by rfl) :
    PI X (.Tuple elts kk tpos) (.Call (.Name "zip" p) [e, e2] [] pos) (iZipM X.K ta) := by
  refine ⟨fun pins s σ H R I h => ?_⟩
  refine Call_ (ld_blt I hg hm PyProof.Rows.boot_zip (PyProof.Rows.callWith_type1 (thn (ha.run pos pins s σ H _ I h) fun us s1 ⟨vs, H1, I1, r1, q1⟩ => ?_) hs hpl))
  obtain ⟨a, b, xs, ys, ex, hqx, hqy, q⟩ := q1
  subst ex
  cases r1 with
  | cons r rr =>
    cases rr with
    | cons r' rr =>
      cases rr
      cases r
      cases r'
      have fresh5 : ∀ c, c ∈ [s1.heap.objs.size + 4, s1.heap.objs.size + 2, s1.heap.objs.size + 3, s1.heap.objs.size, s1.heap.objs.size + 1] → FpOk X pins H1 c := fun c hcm => by
        have hle : s1.heap.objs.size ≤ c := by
          have e' : c = s1.heap.objs.size + 4 ∨ c = s1.heap.objs.size + 2 ∨ c = s1.heap.objs.size + 3 ∨ c = s1.heap.objs.size ∨ c = s1.heap.objs.size + 1 := by simpa using hcm
          rcases e' with z | z | z | z | z
          · rw [z]; exact Nat.le_add_right _ _
          · rw [z]; exact Nat.le_add_right _ _
          · rw [z]; exact Nat.le_add_right _ _
          · rw [z]; exact Nat.le_refl _
          · rw [z]; exact Nat.le_add_right _ _
        exact I1.fpOk hle (I1.hok.fresh hle)
      obtain ⟨its, rv, p1, _⟩ := I1.list hqx
      obtain ⟨its2, rv2, p2, _⟩ := I1.tuple hqy
      obtain ⟨o2, ho2, _⟩ := id p2
      refine zip_begins2 (begins_list a its.toArray) (begins_tuple b its2.toArray) p1.isList (show s1.heap.IsTuple b its2.toArray from p2) fun h' hz hTI hTO h1 h2 hsz hk => wpAny_pyIter_zip hz ?_
      have I2 : Inv X pins σ H1 { s1 with heap := h' } := I1.kept (t' := s1.toks) hk
      exact ⟨s1.heap.objs.size + 4, [s1.heap.objs.size + 4, s1.heap.objs.size + 2, s1.heap.objs.size + 3, s1.heap.objs.size, s1.heap.objs.size + 1], _, _, H1, rfl, I2, turn_zipM (PySem.W.ktu_apart s1.heap.objs.size a b p1.lt (Heap.lt_size ho2)), ⟨hz, hTI, ⟨_, _, hTO⟩, ⟨_, h1, rfl, rfl⟩, ⟨_, h2, rfl, rfl⟩⟩, fresh5, q⟩
/-- zip(xs, ys): two tuples, or a list and a tuple -/
def iZipB (K : PySem.W.Frag) (ta : TA) : TI := fun σ H R => ta σ H fun vs H1 => ∃ a b xs ys, vs = [.ref a, .ref b] ∧ SqT K H1 b ys ∧ ((SqT K H1 a xs ∧ R (RZ.ItzT K a b) H1) ∨ (SqL K H1 a xs ∧ R (ItzM K a b) H1))
theorem pi_zipB {X : Cx} {e e2 : Expr} {ta : TA} {p pos tpos : Pos} {elts : List Expr} {kk : Nat} (hg : Gl X "zip") (hm : X.mg "zip" = none) (ha : PA X [e, e2] ta)
    (hs : starEach [e, e2] X.env = (false, eval e X.env) :: starEach [e2] X.env := by rfl) (hpl : (backTo pos (starEach [e2] X.env)).any (·.1) = false := by rfl) :
    PI X (.Tuple elts kk tpos) (.Call (.Name "zip" p) [e, e2] [] pos) (iZipB X.K ta) := by
  refine ⟨fun pins s σ H R I h => ?_⟩
  refine Call_ (ld_blt I hg hm PyProof.Rows.boot_zip (PyProof.Rows.callWith_type1 (thn (ha.run pos pins s σ H _ I h) fun us s1 ⟨vs, H1, I1, r1, q1⟩ => ?_) hs hpl))
  obtain ⟨a, b, xs, ys, ex, hqy, q⟩ := q1
  subst ex
  cases r1 with
  | cons r rr =>
    cases rr with
    | cons r' rr =>
      cases rr
      cases r
      cases r'
      have fresh5 : ∀ c, c ∈ [s1.heap.objs.size + 4, s1.heap.objs.size + 2, s1.heap.objs.size + 3, s1.heap.objs.size, s1.heap.objs.size + 1] → FpOk X pins H1 c := fun c hcm => by
        have hle : s1.heap.objs.size ≤ c := by
          have e' : c = s1.heap.objs.size + 4 ∨ c = s1.heap.objs.size + 2 ∨ c = s1.heap.objs.size + 3 ∨ c = s1.heap.objs.size ∨ c = s1.heap.objs.size + 1 := by simpa using hcm
          rcases e' with z | z | z | z | z
          · rw [z]; exact Nat.le_add_right _ _
          · rw [z]; exact Nat.le_add_right _ _
          · rw [z]; exact Nat.le_add_right _ _
          · rw [z]; exact Nat.le_refl _
          · rw [z]; exact Nat.le_add_right _ _
        exact I1.fpOk hle (I1.hok.fresh hle)
      rcases q with ⟨hqx, q⟩ | ⟨hqx, q⟩
      · obtain ⟨its, rv, p1, _⟩ := I1.tuple hqx
        obtain ⟨its2, rv2, p2, _⟩ := I1.tuple hqy
        obtain ⟨o1, ho1, _⟩ := id p1
        obtain ⟨o2, ho2, _⟩ := id p2
        refine RZ.call_zipT (show s1.heap.IsTuple a its.toArray from p1) (show s1.heap.IsTuple b its2.toArray from p2) fun h' hz hTI hTO h1 h2 hsz hk => wpAny_pyIter_zip hz ?_
        have I2 : Inv X pins σ H1 { s1 with heap := h' } := I1.kept (t' := s1.toks) hk
        exact ⟨s1.heap.objs.size + 4, [s1.heap.objs.size + 4, s1.heap.objs.size + 2, s1.heap.objs.size + 3, s1.heap.objs.size, s1.heap.objs.size + 1], _, _, H1, rfl, I2, RZ.turn_zipT (PySem.W.ktu_apart s1.heap.objs.size a b (Heap.lt_size ho1) (Heap.lt_size ho2)), ⟨hz, hTI, ⟨_, _, hTO⟩, h1, h2⟩, fresh5, q⟩
      · obtain ⟨its, rv, p1, _⟩ := I1.list hqx
        obtain ⟨its2, rv2, p2, _⟩ := I1.tuple hqy
        obtain ⟨o2, ho2, _⟩ := id p2
        refine zip_begins2 (begins_list a its.toArray) (begins_tuple b its2.toArray) p1.isList (show s1.heap.IsTuple b its2.toArray from p2) fun h' hz hTI hTO h1 h2 hsz hk => wpAny_pyIter_zip hz ?_
        have I2 : Inv X pins σ H1 { s1 with heap := h' } := I1.kept (t' := s1.toks) hk
        exact ⟨s1.heap.objs.size + 4, [s1.heap.objs.size + 4, s1.heap.objs.size + 2, s1.heap.objs.size + 3, s1.heap.objs.size, s1.heap.objs.size + 1], _, _, H1, rfl, I2, turn_zipM (PySem.W.ktu_apart s1.heap.objs.size a b p1.lt (Heap.lt_size ho2)), ⟨hz, hTI, ⟨_, _, hTO⟩, ⟨_, h1, rfl, rfl⟩, ⟨_, h2, rfl, rfl⟩⟩, fresh5, q⟩
theorem walk_zipM {K : PySem.W.Frag} {a b : Addr} {xs ys : List V} {n : Nat} (hn : n = min xs.length ys.length) : Walk (ItzM K a b) n (fun H => SqL K H a xs ∧ SqT K H b ys) (YPair (fun i => xs[i]?) (fun i => ys[i]?)) where
  goes i H hi q := by
    have hx : i < xs.length := by rw [hn] at hi; exact Nat.lt_of_lt_of_le hi (Nat.min_le_left _ _)
    have hy : i < ys.length := by rw [hn] at hi; exact Nat.lt_of_lt_of_le hi (Nat.min_le_right _ _)
    exact ⟨xs, ys, _, _, q.1, q.2, List.getElem?_eq_getElem hx, List.getElem?_eq_getElem hy⟩
  stops H q := ⟨xs, ys, q.1, q.2, by omega, by omega, by omega⟩
  yields i H v H' _ q y := by
    obtain ⟨T, x, z, ev, nT, eH, gx, gz⟩ := y
    exact ⟨T, x, z, ev, nT, eH, gx xs q.1, gz ys q.2⟩
theorem lc_zipIM {K : PySem.W.Frag} {a b : Addr} {xs ys : List Int} {σ : L2.St} {H : Hp} {Qd : Addr → Hp → Prop} {i j : Nat} {vs : List Nat} {te : TE} (f : Int → Int → Int) (hA : SqL K H a (xs.map V.int)) (hB : SqT K H b (ys.map V.int)) (hz : xs.length ≤ 1000)
    (hw : ∀ x y : Option V, wipe (((wipe σ vs).set i x).set j y) vs = wipe σ vs)
    (hte : ∀ (x y : Int) (H' : Hp) (Q' : VK), x ∈ xs → y ∈ ys → Same H H' → Q' (.int (f x y)) H' → te (((wipe σ vs).set i (some (.int x))).set j (some (.int y))) H' Q')
    (hd : ∀ D H', Same H H' → H D = none → H' D = some (.lst ((List.zipWith f xs ys).map V.int)) → Qd D H') :
    LcGoal (ItzM K a b) (gTup K 2 (gCons (gName i) (gCons (gName j) gNil))) tYes te vs σ H Qd := by
  intro D nD
  refine lc_it (walk_zipM (K := K) (a := a) (b := b) (xs := xs.map V.int) (ys := ys.map V.int) rfl) (fun k H' => Same H H' ∧ H' D = some (.lst (((List.zipWith f xs ys).take k).map V.int))) ⟨same_mut (Same.refl H) nD, upd_same⟩ (fun k H' _ hP => ⟨sql_same hP.1 hA, Same.tup hP.1 hB⟩) (fun k x H1 H2 hk hP hY => ?_) (fun H' hP => hd D H' hP.1 nD ?_)
  · obtain ⟨Ta, x1, y1, rfl, nT, rfl, e1, e2⟩ := hY
    obtain ⟨sm, eD⟩ := hP
    have sT : Same H1 (upd H1 Ta (.tup [x1, y1])) := same_upd nT
    have e1 : (xs.map V.int)[k]? = some x1 := e1
    have e2 : (ys.map V.int)[k]? = some y1 := e2
    rw [List.getElem?_map] at e1 e2
    cases h1 : xs[k]? with
    | none => rw [h1] at e1; cases e1
    | some z1 =>
      cases h2 : ys[k]? with
      | none => rw [h2] at e2; cases e2
      | some z2 =>
        rw [h1] at e1
        rw [h2] at e2
        have q1 : x1 = V.int z1 := (Option.some.inj e1).symm
        have q2 : y1 = V.int z2 := (Option.some.inj e2).symm
        subst q1 q2
        refine ⟨Ta, [.int z1, .int z2], rfl, .inl (.inl upd_same), rfl, .int z1, [.int z2], rfl, .int z2, [], rfl, rfl, hw _ _, ?_⟩
        refine hte z1 z2 _ _ (List.mem_of_getElem? h1) (List.mem_of_getElem? h2) (sm.trans sT) ⟨_, sT _ _ eD, ?_, same_mut (sm.trans sT) nD, ?_⟩
        · rw [List.length_map, List.length_take, List.length_zipWith]
          exact small1000 (by omega)
        · rw [upd_same, List.take_add_one, List.getElem?_zipWith, h1, h2, List.map_append]
          rfl
  · obtain ⟨sm, eD⟩ := hP
    rw [eD, List.take_of_length_le]
    rw [List.length_zipWith, List.length_map, List.length_map]
    exact Nat.le_refl _
end OC

set_option Elab.async false
set_option linter.all false
set_option maxRecDepth 100000
set_option maxHeartbeats 2000000
/-! t.index(i) of a tuple of ints -/
namespace OC
open PySem PySem.Spec PyProof.Rows L2
theorem flat_intsV (ys : List Int) : (ys.map V.int).all flatV = true := by
  rw [List.all_map]
  exact List.all_eq_true.mpr fun _ _ => rfl
/-- the first place of a number in a tuple of numbers -/
def rIdxI (K : PySem.W.Frag) : V → List V → Hp → VK → Prop := fun x xs H Q => ∃ (p : Addr) (ns : List Int) (i : Int) (j : Nat), x = .ref p ∧ xs = [.int i] ∧ SqT K H p (ns.map V.int) ∧ ns[j]? = some i ∧ (∀ m, m < j → ns[m]? ≠ some i) ∧ Q (.int (j : Nat)) H
theorem mt_idxI {X : Cx} : MtR X "tuple.index" (rIdxI X.K) := by
  intro pins s σ H x xs v us Q I rx rs h
  obtain ⟨p, ys, z, j, rfl, rfl, hq, hy, hno, q⟩ := h
  cases rx
  obtain ⟨u, rfl, t, rfl⟩ := vals1 rs
  obtain ⟨its, r, pl, hz⟩ := I.tuple hq
  obtain ⟨⟨cls, dd, dt, sl⟩, ho, hc, n, hd⟩ := pl
  simp only at hc hd
  subst hc
  subst hd
  have hl : its.toArray.size = ys.length := by rw [List.size_toArray, ← r.length, List.length_map]
  have hj : j < its.toArray.size := by rw [hl]; exact (List.getElem?_eq_some_iff.mp hy).1
  have at' : ∀ (m : Nat) (hm : m < its.toArray.size), ∃ y t', ys[m]? = some y ∧ its.toArray[m] = Value.int y t' := fun m hm => by
    have hm' : m < ys.length := by rw [← hl]; exact hm
    obtain ⟨w, hw, t', hw'⟩ := r.get (i := m) (x := .int ys[m]) (by simp [hm'])
    refine ⟨ys[m], t', List.getElem?_eq_getElem hm', ?_⟩
    have e := (List.getElem?_eq_some_iff.mp hw).2
    rw [← hw', ← e]
    simp
  refine call_meets PySem.F.slot_tuple_index ⟨_, ho, rfl⟩ PySem.F.entry_tuple_index (PySem.F.args_tuple_index_2 _ _) (TI.tuple_indexAt p its.toArray n dd sl (.int z t) (eqU (.int z)) j hj ?_ ?_)
    ⟨ho, fun w hw => mem_eqAt (x := .int z) ⟨t, rfl⟩ rfl r (flat_intsV ys) w (by simpa using hw), ⟨.int (j : Nat), H, I.tok _, ⟨_, rfl⟩, q⟩⟩
  · obtain ⟨y, t', h1, h2⟩ := at' j hj
    rw [hy] at h1
    cases h1
    rw [h2]
    show (z == z) = true
    exact beq_self_eq_true z
  · intro m hm hmj
    obtain ⟨y, t', h1, h2⟩ := at' m hm
    rw [h2]
    show (y == z) = false
    exact beq_eq_false_iff_ne.mpr fun e => hno m hmj (e ▸ h1)
end OC

set_option Elab.async false
set_option linter.all false
set_option maxRecDepth 100000
set_option maxHeartbeats 4000000
namespace OC
open PySem PySem.Spec PyProof.Rows L2
/-! ### tuples that are known to have no dict: their methods -/
def TupF (H : Hp) (l : Addr) (xs : List V) : Prop := ∃ o : Obj, o.dict = none ∧ H l = some (.frz o (.tup xs))
theorem TupF.sq {K : PySem.W.Frag} {H : Hp} {l : Addr} {xs : List V} (h : TupF H l xs) : SqT K H l xs := by
  obtain ⟨o, _, h⟩ := h
  exact .inl (.inr ⟨o, h⟩)
theorem TupF.same {H H' : Hp} {l : Addr} {xs : List V} (s : Same H H') (h : TupF H l xs) : TupF H' l xs := by
  obtain ⟨o, n, h⟩ := h
  exact ⟨o, n, s _ _ h⟩
def rTupF (K : PySem.W.Frag) : List V → Hp → VK → Prop := fun xs H Q => ∃ p ys, xs = [.ref p] ∧ SqL K H p ys ∧ ∀ l o, H l = none → o.dict = none → Q (.ref l) (upd H l (.frz o (.tup ys)))
theorem call_tuple_F {X : Cx} : CallR X (.type "tuple") (rTupF X.K) := by
  intro pins s σ H xs us Q I r h
  obtain ⟨p, ys, rfl, hq, q⟩ := h
  obtain ⟨u, rfl, rx⟩ := vals1 r
  cases rx
  obtain ⟨its, r', pl, hz⟩ := I.list hq
  have hlen := r'.length
  refine call_tuple_list pl.isList (fun h' kp => ?_) (by simp only [List.size_toArray] <;> omega)
  have I1 : Inv X pins σ H { s with heap := h' } := I.kept (t' := s.toks) kp
  have I2 : Inv X pins σ (upd H h'.objs.size (.frz { cls := .type "tuple", data := .seq its.toArray } (.tup ys))) { s with heap := h'.push { cls := .type "tuple", data := .seq its.toArray } } :=
    I1.laid (t' := s.toks) (fun b o e => Heap.get?_push_of_some _ e) (Nat.le_refl _) (show ObjOk X.prog X.w _ _ _ (.frz { cls := .type "tuple", data := .seq its.toArray } (.tup ys)) from ⟨Heap.get?_push_size _ rfl, hz, its, r', IsTup.new _ _⟩)
  exact ⟨.ref h'.objs.size, _, I2, rfl, q _ _ (I1.hok.fresh (Nat.le_refl _)) rfl⟩
def tBMT (r : V → List V → Hp → VK → Prop) (to : TE) (t : TA) : TE := fun σ H Q => to σ H fun x H1 => (∃ p xs, x = .ref p ∧ TupF H1 p xs) ∧ t σ H1 fun xs H2 => r x xs H2 Q
section
variable {X : Cx} {o e : Expr} {es : List Expr} {to : TE} {t : TA} {name : Str} {apos cpos : Pos} {id : String} {r : V → List V → Hp → VK → Prop}
theorem pe_bmT (slot : Slot "tuple" name id) (hty : typeOf (.builtin id) = pure (.type "method_descriptor")) (hm : MtR X id r) (ho : PE X o to) (ha : PA X (e :: es) t)
    (hbase : attributeBase o name X.env (eval o X.env) = eval o X.env := by rfl)
    (hfew : ((backTo cpos (starEach (e :: es) X.env)).all (fun x => !x.1) && (backToKw cpos (keywordEach [] X.env)).all (fun x => x.1.isSome)
      && decide ((e :: es).length + ([] : List Keyword).length + (if ([] : List Keyword).isEmpty then 0 else 1) < 30)) = true := by rfl)
    (hline : (apos.endLine == cpos.line) = true := by rfl) (hs : starEach (e :: es) X.env = (false, eval e X.env) :: starEach es X.env := by rfl) (hplain : (backTo cpos (starEach es X.env)).any (·.1) = false := by rfl) :
    PE X (.Call (.Attribute o name apos) (e :: es) [] cpos) (tBMT r to t) := by
  refine ⟨fun pins s σ H Q I h => ?_⟩
  refine wpAny_Call_method_late hbase hfew hline rfl (thn (ho.run pins s σ H _ I h) fun v s1 ⟨x, H1, I1, r1, ty, q1⟩ => ?_)
  obtain ⟨p, xs, rfl, ob, od, hp⟩ := ty
  cases r1
  obtain ⟨g1, g2⟩ := I1.hok p _ hp
  have tt : s1.TypeIs (.ref p) "tuple" := by
    obtain ⟨_, its, _, o', e', c', _⟩ := g2
    exact ⟨o', e', c'⟩
  refine ⟨"tuple", id, PySem.F.plainAttrs_tuple, slot, hty, tt, fun a ea => ?_, ?_⟩
  · cases ea
    exact ⟨ob, g1, od⟩
  have hA := ha.run cpos pins s1 σ H1 _ I1 q1
  rw [hs] at hA ⊢
  refine Calls.callWith_builtin (by show (false || (backTo cpos (starEach es X.env)).any (·.1)) = false; rw [hplain] <;> rfl) (Calls.evalArgs_plain ?_)
  exact thn hA fun us s2 ⟨vs, H2, I2, r2, q2⟩ => hm pins s2 σ H2 (.ref p) vs (.ref p) us Q I2 rfl r2 q2
end
end OC

set_option Elab.async false
set_option linter.all false
set_option maxRecDepth 100000
set_option maxHeartbeats 4000000
namespace OC
open PySem PySem.Spec PyProof.Rows L2
theorem noLAll_mem : ∀ {ds : List PyData}, noLAll ds = true → ∀ d ∈ ds, noL d = true
  | [], _, d, h => (nomatch h)
  | x :: ds, e, d, h => by
    simp only [noLAll, Bool.and_eq_true] at e
    rcases List.mem_cons.mp h with rfl | h
    · exact e.1
    · exact noLAll_mem e.2 d h
theorem noLAll_of : ∀ {ds : List PyData}, (∀ d ∈ ds, noL d = true) → noLAll ds = true
  | [], _ => rfl
  | x :: ds, h => by
    simp only [noLAll, Bool.and_eq_true]
    exact ⟨h x List.mem_cons_self, noLAll_of fun d hd => h d (List.mem_cons_of_mem _ hd)⟩
/-- [x for x in xs if t], of data without lists -/
theorem lc_filterD {K : PySem.W.Frag} {J : It} {G : Hp → Prop} {vs : List V} {ds : List PyData} {σ : L2.St} {H : Hp} {Qd : Addr → Hp → Prop} {i : Nat} {sl : List Nat} {tt : TT} (q : PyData → Bool)
    (w : Walk J vs.length G (YAt vs)) (hG : ∀ H', Same H H' → G H') (hD : DpAll K H vs ds) (hn : noLAll ds = true) (hz : vs.length ≤ 10000) (hw : ∀ x : Option V, wipe ((wipe σ sl).set i x) sl = wipe σ sl) (hi : i < (wipe σ sl).length)
    (htt : ∀ (v : V) (d : PyData) (H' : Hp) (Q' : Bool → Hp → Prop), d ∈ ds → Dp K H' v d → Same H H' → (∀ H'', Same H' H'' → Q' (q d) H'') → tt ((wipe σ sl).set i (some v)) H' Q')
    (hd : ∀ D H' ws, Same H H' → H D = none → H' D = some (.lst ws) → DpAll K H' ws (ds.filter q) → Qd D H') :
    LcGoal J (gName i) tt (tVar i) sl σ H Qd := by
  intro D nD
  have lv := dpAll_len hD
  refine lc_it w (fun k H' => Same H H' ∧ ∃ ws, H' D = some (.lst ws) ∧ ws.length ≤ k ∧ DpAll K H' ws ((ds.take k).filter q)) ⟨same_mut (Same.refl H) nD, [], upd_same, Nat.le_refl _, .nil⟩ (fun k H' _ hP => hG H' hP.1) (fun k x H1 H2 hk hP hY => ?_) (fun H' hP => ?_)
  · obtain ⟨rfl, e1⟩ := hY
    obtain ⟨sm, ws, eD, lw, dw⟩ := hP
    obtain ⟨d, gd, md, hv⟩ := dpAll_get hD e1
    refine ⟨hw _, htt x d _ _ md (dp_same sm _ _ hv) sm fun H'' s2 => ?_⟩
    have eD2 := s2 _ _ eD
    have tk : (ds.take (k + 1)).filter q = (ds.take k).filter q ++ (if q d = true then [d] else []) := by
      rw [List.take_add_one, gd, List.filter_append]
      congr 1
      by_cases hq : q d = true
      · simp [hq]
      · simp [hq]
    have nf : noLAll ((ds.take k).filter q) = true := noLAll_of fun z hz => noLAll_mem hn z (List.mem_of_mem_take (List.mem_filter.mp hz).1)
    by_cases hq : q d = true
    · rw [hq]
      have tkk : Tk H'' (upd H'' D (.lst (ws ++ [x]))) := (Tk.refl _).mut eD2
      refine iteT ⟨x, by rw [List.getElem?_set_self hi], ws, eD2, small10k (by omega), same_mut (sm.trans s2) nD, ws ++ [x], upd_same, by rw [List.length_append]; simp; omega, ?_⟩
      rw [tk, if_pos hq]
      exact dpAll_append (dpAll_tk tkk _ _ nf (dpAll_same s2 _ _ dw)) (.cons (dp_tk tkk _ _ (noLAll_mem hn d md) (dp_same (sm.trans s2) _ _ hv)) .nil)
    · have hq' : q d = false := by simpa using hq
      rw [hq']
      refine iteF ⟨sm.trans s2, ws, eD2, by omega, ?_⟩
      rw [tk, if_neg hq, List.append_nil]
      exact dpAll_same s2 _ _ dw
  · obtain ⟨sm, ws, eD, lw, dw⟩ := hP
    rw [List.take_of_length_le (by omega)] at dw
    exact hd D H' ws sm nD eD dw
/-- [f(x) for x in xs], of data without lists -/
theorem lc_mapD {K : PySem.W.Frag} {J : It} {G : Hp → Prop} {vs : List V} {ds : List PyData} {σ : L2.St} {H : Hp} {Qd : Addr → Hp → Prop} {i : Nat} {sl : List Nat} {te : TE} (F : PyData → PyData)
    (w : Walk J vs.length G (YAt vs)) (hG : ∀ H', Same H H' → G H') (hD : DpAll K H vs ds) (hn : ∀ d ∈ ds, noL (F d) = true) (hz : vs.length ≤ 10000) (hw : ∀ x : Option V, wipe ((wipe σ sl).set i x) sl = wipe σ sl)
    (hte : ∀ (v : V) (d : PyData) (H' : Hp) (Q' : VK), d ∈ ds → Dp K H' v d → Same H H' → (∀ H'' v', Same H' H'' → Dp K H'' v' (F d) → Q' v' H'') → te ((wipe σ sl).set i (some v)) H' Q')
    (hd : ∀ D H' ws, Same H H' → H D = none → H' D = some (.lst ws) → DpAll K H' ws (ds.map F) → Qd D H') :
    LcGoal J (gName i) tYes te sl σ H Qd := by
  intro D nD
  have lv := dpAll_len hD
  refine lc_it w (fun k H' => Same H H' ∧ ∃ ws, H' D = some (.lst ws) ∧ DpAll K H' ws ((ds.take k).map F)) ⟨same_mut (Same.refl H) nD, [], upd_same, .nil⟩ (fun k H' _ hP => hG H' hP.1) (fun k x H1 H2 hk hP hY => ?_) (fun H' hP => ?_)
  · obtain ⟨rfl, e1⟩ := hY
    obtain ⟨sm, ws, eD, dw⟩ := hP
    obtain ⟨d, gd, md, hv⟩ := dpAll_get hD e1
    refine ⟨hw _, hte x d _ _ md (dp_same sm _ _ hv) sm fun H'' v' s2 dv => ?_⟩
    have eD2 := s2 _ _ eD
    have lw := dpAll_len dw
    rw [List.length_map, List.length_take] at lw
    have tkk : Tk H'' (upd H'' D (.lst (ws ++ [v']))) := (Tk.refl _).mut eD2
    refine ⟨ws, eD2, small10k (by omega), same_mut (sm.trans s2) nD, ws ++ [v'], upd_same, ?_⟩
    rw [List.take_add_one, gd, List.map_append]
    refine dpAll_append (dpAll_tk tkk _ _ (noLAll_of fun z hz => ?_) (dpAll_same s2 _ _ dw)) (.cons (dp_tk tkk _ _ (hn d md) dv) .nil)
    obtain ⟨y, my, rfl⟩ := List.mem_map.mp hz
    exact hn y (List.mem_of_mem_take my)
  · obtain ⟨sm, ws, eD, dw⟩ := hP
    rw [List.take_of_length_le (by omega)] at dw
    exact hd D H' ws sm nD eD dw
end OC

set_option Elab.async false
set_option linter.all false
set_option maxRecDepth 100000
set_option maxHeartbeats 4000000
/-! stage 4's plain form: rows reduced by one another, by mixes -/
namespace OC
open PySem PySem.Spec PyProof.Rows L2 Lin
theorem PFR.first_one {p : Int} (hF : Fld p) {n : Nat} {room : List (List Int)} (h : PFR p n room) : ∀ b ∈ room, b.getD (fpR b) 0 = 1 := by
  obtain ⟨q, rfl, _, hF⟩ := to_q hF
  obtain ⟨ok, bs, pf, e⟩ := (isPF_iff hF).mpr h
  intro b hb
  have : toV (q := q) b ∈ bs.map (·.2) := by rw [e]; exact List.mem_map_of_mem hb
  obtain ⟨c, hc, ec⟩ := List.mem_map.mp this
  have ld := pf.leads (one_ne (q2 hF)) hc
  rw [ec] at ld
  have on := pf.one c hc
  rw [ec, ← fpR_lead (ok b hb).2 ld] at on
  have on : cF (q := q) (b.getD (fpR b) 0) = 1 := on
  rw [← cF_one (q2 hF)] at on
  have bd := getD_lt (p := (q : Int)) (by have := q2 hF; omega) (ok b hb).2 (fpR b)
  have h2 := q2 hF
  exact cF_inj bd ⟨by decide, by omega⟩ on
theorem plus_less {p : Int} {x y : List Int} {j : Nat} : plusR p x y (-(x.getD j 0)) = lessR p x y j := by
  unfold plusR lessR
  congr 1
  funext a b
  rw [Int.neg_mul]
  rfl
theorem plus_own {p ct : Int} : ∀ (y : List Int), plusR p (List.replicate y.length 0) y ct = y.map fun r => ct * r % p
  | [] => rfl
  | x :: y => by
    have ih := plus_own (p := p) (ct := ct) y
    unfold plusR at ih ⊢
    rw [List.length_cons, List.replicate_succ, List.zipWith_cons_cons, ih, List.map_cons, Int.zero_add]
theorem flat_zero (k : Nat) : (List.replicate k [V.int 0]).flatten = (List.replicate k (0 : Int)).map V.int := by
  induction k with
  | zero => rfl
  | succ k ih => rw [List.replicate_succ, List.flatten_cons, ih, List.replicate_succ, List.map_cons]; rfl
/-- the contrary rest, looked for from 0 on -/
theorem ctr_from0 {p : Int} (hF : Fld p) {a : Int} (h0 : 1 ≤ a) (h1 : a < p) : (((List.range p.toNat).map fun (i : Nat) => ((i : Nat) : Int)).filter fun k => decide (k * a % p = 1))[0]? = some (ctr p a) := by
  have ec : (fun k : Int => decide (k * a % p = 1)) = fun b => decide (a * b % p = 1) := by
    funext k
    rw [Int.mul_comm]
  rw [ec]
  have hc := ctr_ok hF h0 h1
  have hh : ctr p a = (((List.range p.toNat).map fun (i : Nat) => ((i : Nat) : Int)).filter fun b => decide (a * b % p = 1)).headD 0 := rfl
  generalize hL : ((List.range p.toNat).map fun (i : Nat) => ((i : Nat) : Int)).filter (fun b => decide (a * b % p = 1)) = L at hh ⊢
  cases L with
  | nil =>
    rw [show ([] : List Int).headD 0 = 0 from rfl] at hh
    rw [hh, Int.mul_zero, Int.zero_emod] at hc
    exact absurd hc.2.2 (by decide)
  | cons x L => rw [hh]; rfl
theorem left_take {p : Int} {fs : List (List Int)} {r b : List Int} {j : Nat} (h : fs[j]? = some b) : leftR p (fs.take (j + 1)) r = lessR p (leftR p (fs.take j) r) b (fpR b) := by
  unfold leftR
  rw [List.take_add_one, h, List.foldl_append]
  rfl
inductive FAll (H : Hp) : List V → List (List Int) → Prop
  | nil : FAll H [] []
  | cons {b : Addr} {g : List Int} {vs : List V} {gs : List (List Int)} : TupF H b (g.map V.int) → FAll H vs gs → FAll H (.ref b :: vs) (g :: gs)
theorem FAll.same {H H' : Hp} (s : Same H H') : ∀ {vs : List V} {gs : List (List Int)}, FAll H vs gs → FAll H' vs gs
  | _, _, .nil => .nil
  | _, _, .cons h t => .cons (h.same s) (t.same s)
theorem FAll.app {H : Hp} : ∀ {vs us : List V} {gs hs : List (List Int)}, FAll H vs gs → FAll H us hs → FAll H (vs ++ us) (gs ++ hs)
  | _, _, _, _, .nil, h => h
  | _, _, _, _, .cons h t, h2 => .cons h (t.app h2)
theorem FAll.len {H : Hp} : ∀ {vs : List V} {gs : List (List Int)}, FAll H vs gs → vs.length = gs.length
  | _, _, .nil => rfl
  | _, _, .cons _ t => by rw [List.length_cons, List.length_cons, t.len]
theorem FAll.get {H : Hp} : ∀ {vs : List V} {gs : List (List Int)} {i : Nat} {v : V}, FAll H vs gs → vs[i]? = some v → ∃ b g, v = .ref b ∧ gs[i]? = some g ∧ TupF H b (g.map V.int)
  | _, _, _, _, .nil, h => by simp at h
  | _, _, 0, _, .cons (b := b) (g := g) h t, e => by cases e; exact ⟨b, g, rfl, rfl, h⟩
  | _, _, i + 1, v, .cons h t, e => t.get (i := i) (v := v) e
theorem FAll.mut {H : Hp} {D : Addr} {xs : List V} {o : HO} (e : H D = some (.lst xs)) : ∀ {vs : List V} {gs : List (List Int)}, FAll H vs gs → FAll (upd H D o) vs gs
  | _, _, .nil => .nil
  | _, _, .cons h t => by
    obtain ⟨ob, n, h⟩ := h
    exact .cons ⟨ob, n, by rw [upd_ne (fun z => by rw [z, e] at h; cases h)]; exact h⟩ (t.mut e)
theorem FAll.dp {K : PySem.W.Frag} {H : Hp} : ∀ {vs : List V} {gs : List (List Int)}, FAll H vs gs → DpAll K H vs (gs.map rowD)
  | _, _, .nil => .nil
  | _, _, .cons h t => .cons (row_dp h.sq) t.dp
/-- [f(x) for x in xs], of rows that stand by themselves -/
theorem lc_mapF {J : It} {G : Hp → Prop} {vs : List V} {gs : List (List Int)} {σ : L2.St} {H : Hp} {Qd : Addr → Hp → Prop} {i : Nat} {sl : List Nat} {te : TE} (f : List Int → List Int)
    (w : Walk J vs.length G (YAt vs)) (hG : ∀ H', Same H H' → G H') (hD : FAll H vs gs) (hz : vs.length ≤ 10000) (hw : ∀ x : Option V, wipe ((wipe σ sl).set i x) sl = wipe σ sl)
    (hte : ∀ (b : Addr) (g : List Int) (H' : Hp) (Q' : VK), g ∈ gs → TupF H' b (g.map V.int) → Same H H' → (∀ H'' l, Same H' H'' → TupF H'' l ((f g).map V.int) → Q' (.ref l) H'') → te ((wipe σ sl).set i (some (.ref b))) H' Q')
    (hd : ∀ D H' ws, Same H H' → H D = none → H' D = some (.lst ws) → FAll H' ws (gs.map f) → Qd D H') :
    LcGoal J (gName i) tYes te sl σ H Qd := by
  intro D nD
  have lv := hD.len
  refine lc_it w (fun k H' => Same H H' ∧ ∃ ws, H' D = some (.lst ws) ∧ FAll H' ws ((gs.take k).map f)) ⟨same_mut (Same.refl H) nD, [], upd_same, .nil⟩ (fun k H' _ hP => hG H' hP.1) (fun k x H1 H2 hk hP hY => ?_) (fun H' hP => ?_)
  · obtain ⟨rfl, e1⟩ := hY
    obtain ⟨sm, ws, eD, tw⟩ := hP
    obtain ⟨b, g, rfl, gg, hb⟩ := hD.get e1
    refine ⟨hw _, hte b g _ _ (List.mem_of_getElem? gg) (hb.same sm) sm fun H'' l s2 el => ?_⟩
    have eD2 := s2 _ _ eD
    have lw := tw.len
    rw [List.length_map, List.length_take] at lw
    refine ⟨ws, eD2, small10k (by omega), same_mut (sm.trans s2) nD, ws ++ [.ref l], upd_same, ?_⟩
    rw [List.take_add_one, gg, List.map_append]
    exact ((tw.same s2).app (.cons el .nil)).mut eD2
  · obtain ⟨sm, ws, eD, tw⟩ := hP
    rw [List.take_of_length_le (by omega)] at tw
    exact hd D H' ws sm nD eD tw
def posR (r : List Int) (k : Nat) : List Nat := (List.range k).filter fun i => decide (r.getD i 0 > 0)
theorem posR_succ (r : List Int) (k : Nat) : posR r (k + 1) = posR r k ++ (if r.getD k 0 > 0 then [k] else []) := by
  unfold posR
  rw [List.range_succ, List.filter_append]
  congr 1
  by_cases h0 : r.getD k 0 > 0
  · rw [if_pos h0]
    exact List.filter_cons_of_pos (decide_eq_true h0)
  · rw [if_neg h0]
    exact List.filter_cons_of_neg (by rw [decide_eq_false h0]; decide)
theorem posR_nz {p : Int} {r : List Int} (h : ∀ x ∈ r, 0 ≤ x ∧ x < p) (hp : 0 < p) (k : Nat) : posR r k = nzsR r k := by
  unfold posR nzsR
  refine List.filter_congr fun i _ => decide_eq_decide.mpr ?_
  have := (getD_lt hp h i).1
  omega
theorem dpAll_pwU {K : PySem.W.Frag} {H : Hp} {B : Int} : ∀ {ys : List V} {rs : List (List Int)}, DpAll K H ys (rs.map rowD) → ys.Pairwise (fun x y => ∀ n m, TupI K H x n → TupI K H y m → TS.code B n ≤ TS.code B m) → rs.Pairwise fun a b => codeR B a ≤ codeR B b
  | _, [], _, _ => List.Pairwise.nil
  | _, r :: rs, h, hp => by
    cases h with
    | @cons y ys _ _ h1 h2 =>
      obtain ⟨p1, p2⟩ := List.pairwise_cons.mp hp
      refine List.pairwise_cons.mpr ⟨fun b hb => ?_, dpAll_pwU h2 p2⟩
      obtain ⟨i, hi, rfl⟩ := List.getElem_of_mem hb
      have hi' : i < ys.length := by rw [rows_len h2]; exact hi
      obtain ⟨c, r2, ec, gr, _, hc⟩ := dpAll_row h2 (List.getElem?_eq_getElem hi')
      rw [List.getElem?_eq_getElem hi] at gr
      have er : rs[i] = r2 := Option.some.inj gr
      obtain ⟨a, ea, ha⟩ := dp_row h1
      have := p1 ys[i] (List.getElem_mem hi') r rs[i] ⟨a, ea, ha⟩ ⟨c, ec, by rw [er]; exact hc⟩
      rwa [code_eq, code_eq] at this
theorem dpAll_rev {K : PySem.W.Frag} {H : Hp} : ∀ {vs : List V} {ds : List PyData}, DpAll K H vs ds → DpAll K H vs.reverse ds.reverse
  | _, _, .nil => .nil
  | _, _, .cons h t => by
    rw [List.reverse_cons, List.reverse_cons]
    exact dpAll_append (dpAll_rev t) (.cons h .nil)
def rSortUE (K : PySem.W.Frag) : List V → Hp → VK → Prop := fun vs H Q => ∃ (d : Nat) (B : Int), 1 ≤ d ∧ rSortU K d B vs H Q
theorem cr_sortTE {X : Cx} : CallR X (.builtin "sorted") (rSortUE X.K) := by
  intro pins s σ H vs us Q I r h
  obtain ⟨d, B, hd, h⟩ := h
  exact cr_sortT hd pins s σ H vs us Q I r h
end OC

set_option Elab.async false
set_option linter.all false
set_option maxRecDepth 100000
set_option maxHeartbeats 4000000
/-! stage 4's drawn stands -/
namespace OC
open PySem PySem.Spec PyProof.Rows L2
/-- a comprehension of drawn rows -/
theorem lc_rows4 {K : PySem.W.Frag} {d c e : Addr} {t p : Int} {n m : Nat} {σ : L2.St} {H : Hp} {Qd : Addr → Hp → Prop} {i : Nat} {sl : List Nat} {te : TE} (D0 : Drw H d c e t) (hm : m ≤ 100) (hw : ∀ x : Option V, wipe ((wipe σ sl).set i x) sl = wipe σ sl)
    (hte : ∀ (x : V) (k : Nat) (t' : Int) (H' : Hp) (Q' : VK), Drw H' d c e t' → t' ≤ t + 30 * k → k < m → (∀ H'' t'' a r, Kept d e H' H'' → Drw H'' d c e t'' → t'' ≤ t' + 30 → H'' a = some (.tup (r.map V.int)) → RowsOk p n [r] → Q' (.ref a) H'') → te ((wipe σ sl).set i (some x)) H' Q')
    (hd : ∀ (D : Addr) (H' : Hp) (t' : Int) (ws : List V) (rs : List (List Int)), Kept d e H H' → Drw H' d c e t' → t' ≤ t + 30 * m → H D = none → H' D = some (.lst ws) → DpAll K H' ws (rs.map rowD) → rs.length = m → RowsOk p n rs → Qd D H') :
    LcGoal (Itr 0 m) (gName i) tYes te sl σ H Qd := by
  intro D nD
  have bD := D0.fresh nD
  refine lc_range (lo := 0) (n := m) (fun k H' => Kept d e H H' ∧ ∃ (t' : Int) (ws : List V) (rs : List (List Int)), Drw H' d c e t' ∧ t' ≤ t + 30 * k ∧ H' D = some (.lst ws) ∧ DpAll K H' ws (rs.map rowD) ∧ rs.length = k ∧ RowsOk p n rs) ⟨Kept.of (same_upd nD), t, [], [], D0.same (same_upd nD), by omega, upd_same, .nil, rfl, fun x hx => (nomatch hx)⟩ (fun k H' hk hW => ?_) (fun H' hW => ?_)
  · obtain ⟨k', t', ws, rs, D', ht', eB, dp, ln, ro⟩ := hW
    refine ⟨hw _, hte _ k t' H' _ D' ht' hk fun H1 t1 a r k1 D1 ht1 ea okr => ?_⟩
    have eB1 := Drw.lst (c := c) k1 bD eB
    have na : D ≠ a := fun z => by subst z; rw [eB1] at ea; cases ea
    have lw := dpAll_len dp
    rw [List.length_map] at lw
    have tk : Tk H1 (upd H1 D (.lst (ws ++ [.ref a]))) := (Tk.refl _).mut eB1
    refine ⟨ws, eB1, small1000 (by omega), (k'.trans k1).mut nD, t1, ws ++ [.ref a], rs ++ [r], D1.mut bD, by omega, upd_same, ?_, by rw [List.length_append, ln]; rfl, fun y hy => ?_⟩
    · rw [List.map_append]
      refine dpAll_append (dpAll_tk tk _ _ (noL_rows rs) (dpAll_tk (D'.tk k1) _ _ (noL_rows rs) dp)) (.cons (.tup (.inl (.inl ?_)) (dpAll_ints r)) .nil)
      rw [upd_ne (Ne.symm na)]
      exact ea
    · rcases List.mem_append.mp hy with h | h
      · exact ro y h
      · rw [List.mem_singleton.mp h]
        exact okr r List.mem_cons_self
  · obtain ⟨k', t', ws, rs, D', ht', eB, dp, ln, ro⟩ := hW
    exact hd D H' t' ws rs k' D' ht' nD eB dp ln ro
theorem dpAll_mem {K : PySem.W.Frag} {H : Hp} {ws : List V} {rs : List (List Int)} {v : V} (h : DpAll K H ws (rs.map rowD)) (m : v ∈ ws) : ∃ a r, v = .ref a ∧ r ∈ rs ∧ SqT K H a (r.map V.int) := by
  obtain ⟨i, hi, rfl⟩ := List.getElem_of_mem m
  obtain ⟨a, r, e, _, mr, hs⟩ := dpAll_row h (List.getElem?_eq_getElem hi)
  exact ⟨a, r, e, mr, hs⟩
/-- some of a list's rows, drawn again and again -/
theorem lc_some4 {K : PySem.W.Frag} {d c e : Addr} {t p : Int} {n m : Nat} {ws : List V} {rs : List (List Int)} {σ : L2.St} {H : Hp} {Qd : Addr → Hp → Prop} {i : Nat} {sl : List Nat} {te : TE} (D0 : Drw H d c e t) (hD : DpAll K H ws (rs.map rowD)) (ok : RowsOk p n rs) (hm : m ≤ 100) (hw : ∀ x : Option V, wipe ((wipe σ sl).set i x) sl = wipe σ sl)
    (hte : ∀ (x : V) (k : Nat) (t' : Int) (H' : Hp) (Q' : VK), Kept d e H H' → Drw H' d c e t' → t' ≤ t + k → k < m → (∀ H'' v, Kept d e H' H'' → Drw H'' d c e (t' + 1) → v ∈ ws → Q' v H'') → te ((wipe σ sl).set i (some x)) H' Q')
    (hd : ∀ (D : Addr) (H' : Hp) (t' : Int) (us : List V) (gs : List (List Int)), Kept d e H H' → Drw H' d c e t' → t' ≤ t + m → H D = none → H' D = some (.lst us) → DpAll K H' us (gs.map rowD) → gs.length = m → RowsOk p n gs → Qd D H') :
    LcGoal (Itr 0 m) (gName i) tYes te sl σ H Qd := by
  intro D nD
  have bD := D0.fresh nD
  refine lc_range (lo := 0) (n := m) (fun k H' => Kept d e H H' ∧ ∃ (t' : Int) (us : List V) (gs : List (List Int)), Drw H' d c e t' ∧ t' ≤ t + k ∧ H' D = some (.lst us) ∧ DpAll K H' us (gs.map rowD) ∧ gs.length = k ∧ RowsOk p n gs) ⟨Kept.of (same_upd nD), t, [], [], D0.same (same_upd nD), by omega, upd_same, .nil, rfl, fun x hx => (nomatch hx)⟩ (fun k H' hk hW => ?_) (fun H' hW => ?_)
  · obtain ⟨k', t', us, gs, D', ht', eB, dp, ln, ro⟩ := hW
    refine ⟨hw _, hte _ k t' H' _ k' D' ht' hk fun H1 v k1 D1 mv => ?_⟩
    have eB1 := Drw.lst (c := c) k1 bD eB
    obtain ⟨a, r, rfl, mr, ha⟩ := dpAll_mem hD mv
    have lw := dpAll_len dp
    rw [List.length_map] at lw
    have tk : Tk H1 (upd H1 D (.lst (us ++ [.ref a]))) := (Tk.refl _).mut eB1
    refine ⟨us, eB1, small1000 (by omega), (k'.trans k1).mut nD, t' + 1, us ++ [.ref a], gs ++ [r], D1.mut bD, by omega, upd_same, ?_, by rw [List.length_append, ln]; rfl, fun y hy => ?_⟩
    · rw [List.map_append]
      exact dpAll_append (dpAll_tk tk _ _ (noL_rows gs) (dpAll_tk (D'.tk k1) _ _ (noL_rows gs) dp)) (.cons (row_dp (tk _ _ _ (D0.tup (k'.trans k1) ha))) .nil)
    · rcases List.mem_append.mp hy with h | h
      · exact ro y h
      · rw [List.mem_singleton.mp h]
        exact ok r mr
  · obtain ⟨k', t', us, gs, D', ht', eB, dp, ln, ro⟩ := hW
    exact hd D H' t' us gs k' D' ht' nD eB dp ln ro
end OC

set_option Elab.async false
set_option linter.all false
set_option maxRecDepth 100000
set_option maxHeartbeats 4000000
/-! sorted of a list of data: tuples of texts, tuples of these, the empty tuple first among them -/
namespace OC
open PySem PySem.W PySem.Spec PyProof.Rows L2 SeqAt
section
variable {prog : Program} {w : World} {A : Around} {E : Value → Shared → Prop} {s : Shared}
theorem oneLt_tuples {xs ys : List PyData} {a b : Value} {as bs : List Addr} {Q : Bool → Shared → Prop} (ra : Reads s.heap a (.tuple xs) as) (rb : Reads s.heap b (.tuple ys) bs) (h : alike (.tuple xs) (.tuple ys) = true)
    (hu : A.units + min (PyData.tuple xs).depth (PyData.tuple ys).depth < cLine) (hq : Q (dataLt (.tuple xs) (.tuple ys)) s) : wpAny (model prog w) A (oneLt' true a b) Q E s := by
  have hal : alikeAll xs ys = true := by simpa [alike] using h
  cases ra with
  | @tuple l o vs n _ as₁ h1 h2 h3 h4 =>
    cases rb with
    | @tuple l' o' vs' n' _ bs₁ k1 k2 k3 k4 =>
      have n1 : vs.size = xs.length := by simpa using ReadsAll.length _ _ _ h4
      have n2 : vs'.size = ys.length := by simpa using ReadsAll.length _ _ _ k4
      rw [dataLt_tuple, ← firstLt_toks xs ys hal, ← n1, ← n2] at hq
      rw [oneLt'_eq]
      simp only [if_true]
      refine wpAny_bind (wpAny_cRoomFor (room_here hu) ?_)
      obtain ⟨cls, dd, data, sl⟩ := o
      obtain ⟨cls2, dd2, data2, sl2⟩ := o'
      simp only at h2 h3 k2 k3
      subst h2 h3 k2 k3
      refine wpAny_bind (wpAny_callSpecialIfBound?_slot (T := "tuple") ⟨_, h1, rfl⟩ F.slot_tuple_lt (call_meets F.slot_tuple_lt ⟨_, h1, rfl⟩ F.entry_tuple_lt (F.args_tuple_lt_2 _ _) (tuple_ltAt l l' vs vs' n n' dd dd2 sl sl2 (pairEq xs ys) (fun j => dataLt (xs.getD j .none) (ys.getD j .none))) ⟨h1, k1, fun j j1 j2 => ?_, fun j j1 j2 hj => ?_, ?_⟩))
      · have := eqAt_alikeAll xs ys A.in1 s vs.toList vs'.toList _ _ h4 k4 hal (room_in hu) j (by simpa using j1) (by simpa using j2)
        simpa using this
      · have := rcLt_alikeAll xs ys A.in1 s vs.toList vs'.toList _ _ h4 k4 hal (room_in hu) j (by simpa using j1) (by simpa using j2) hj
        simpa using this
      · exact wpAny_truthy_bool hq
end
section
variable {M : Model} {A : Around} {E : Value → Shared → Prop} {s : Shared}
/-- the first items of tuples, none of an empty one -/
theorem firsts_any : ∀ (vs : List Value) (ds : List (List PyData)) {Q : List (Option Value) → Shared → Prop}, EachIs (fun v d => ∃ as, Reads s.heap v (.tuple d) as) vs ds → (∀ fs : List (Option Value), fs.length = vs.length → (∀ i : Nat, ds[i]? = some ([] : List PyData) → fs[i]? = some (none : Option Value)) → Q fs s) → wpAny M A (vs.mapM firstOfTuple') Q E s
  | _, _, _, .nil, h => by rw [List.mapM_nil]; exact wpAny_pure (h [] rfl fun i e => by simp at e)
  | _, _, Q, .cons (a := v) (b := d) (as := vs) (bs := ds) ⟨as, r⟩ t, h => by
    cases r with
    | @tuple a o xs n _ as₁ h1 h2 h3 h4 =>
      have n1 : xs.size = d.length := by simpa using ReadsAll.length _ _ _ h4
      rw [List.mapM_cons]
      refine wpAny_bind ?_
      rw [kas_first_eq]
      refine wpAny_bind (Looks.here (show Looks M s.heap (typeOf (.ref a)) o.cls from (Looks.ld h1).andThen .now) ?_)
      rw [h2, if_neg (by first | decide | simp)]
      refine wpAny_bind (listItems_at h1 h3 (wpAny_pure ?_))
      refine wpAny_bind (firsts_any vs ds t fun fs lf hf => wpAny_pure (h _ (by rw [List.length_cons, List.length_cons, lf]) fun i e => ?_))
      cases i with
      | zero =>
        have e : d = [] := Option.some.inj e
        have z : xs.size = 0 := by rw [n1, e]; rfl
        rw [List.getElem?_cons_zero, Array.getElem?_eq_none (by omega)]
      | succ i => exact hf i e
theorem kind_empty {v₁ : Value} {vs : List Value} {d₁ : List PyData} {ds : List (List PyData)} {Q : SortKind → Shared → Prop} (e : EachIs (fun v d => ∃ as, Reads s.heap v (.tuple d) as) (v₁ :: vs) (d₁ :: ds)) (hd : d₁ = []) (h : Q oneType' s) :
    wpAny M A (keyKind' (v₁ :: vs).toArray) Q E s := by
  rw [keyKind'_eq, List.mapM_toArray, map_eq_pure_bind]
  refine wpAny_bind (wpAny_bind (firsts_any _ _ e fun fs lf hf => wpAny_pure ?_))
  have f0 : fs[0]? = some none := hf 0 (by rw [hd]; rfl)
  cases fs with
  | nil => cases f0
  | cons f fs =>
    have ef : f = none := Option.some.inj f0
    subst ef
    rw [if_neg (by simp), if_neg (by simp)]
    rw [oneTypeOnly'_eq, List.mapM_toArray, map_eq_pure_bind]
    have hT : ∀ v ∈ v₁ :: vs, Looks M s.heap (typeOf v) (.type "tuple") := fun v hv => by
      obtain ⟨d, _, as, r⟩ := e.left v hv
      exact looks_reads r
    refine wpAny_bind (wpAny_bind (wpAny_bind (kas_mapM (r := Value.type "tuple") _ (fun v hv Q' hq => (hT v hv).here hq) (wpAny_pure ?_))))
    have hall : ((List.map (fun _ => Value.type "tuple") (v₁ :: vs)).toArray.all fun x => x == Value.type "tuple") = true := by
      simp only [List.all_toArray, List.all_map, List.all_eq_true]
      intro _ _
      exact beq_self_eq_true _
    have h0 : (List.map (fun _ => Value.type "tuple") (v₁ :: vs)).toArray[0]? = some (Value.type "tuple") := by simp
    rw [h0]
    simp only [hall, if_true]
    exact wpAny_pure (wpAny_pure h)
end
/-- such data can be sorted: as the library says, or tuples of which the first is empty -/
def SortableE (ds : List PyData) : Prop := Sortable ds ∨ ∃ es : List (List PyData), ds = (PyData.tuple []) :: es.map PyData.tuple
theorem each_tup {R : Value → PyData → Prop} : ∀ {vs : List Value} {es : List (List PyData)}, EachIs R vs (es.map PyData.tuple) → EachIs (fun v d => R v (.tuple d)) vs es
  | _, [], h => by cases h; exact .nil
  | _, e :: es, h => by
    cases h with
    | cons h1 h2 => exact .cons h1 (each_tup h2)
theorem sortsAtE {prog : Program} {w : World} {A : Around} {s : Shared} {vs : List Value} {ds : List PyData} (e : EachIs (fun v d => ∃ as, Reads s.heap v d as) vs ds) (hal : AllAlike ds) (hk : SortableE ds) (hu : ∀ d, d ∈ ds → A.units + d.depth < cLine) : SortsAt prog w A s (dataKind s.heap ds) vs := by
  rcases hk with hk | ⟨es, he⟩
  · exact SortsAt.data e hal hk hu
  · refine ⟨fun v hv => ?_, oneType', ?_, fun h2 E Q hq => ?_⟩
    · obtain ⟨d, hd, as, r⟩ := e.left v hv
      exact ⟨_, dataKind_some hal hd r⟩
    · intro E x y a b Q ha hb hq
      obtain ⟨d, as, hd, ra, rfl⟩ := dataKind_inv ha
      obtain ⟨d', as', hd', rb, rfl⟩ := dataKind_inv hb
      have tup : ∀ d ∈ ds, ∃ xs, d = .tuple xs := fun d hd => by
        rw [he] at hd
        rcases List.mem_cons.mp hd with rfl | hd
        · exact ⟨_, rfl⟩
        · obtain ⟨x, _, rfl⟩ := List.mem_map.mp hd
          exact ⟨_, rfl⟩
      have hdd := hal d hd d' hd'
      have hroom : A.units + min d.depth d'.depth < cLine := Nat.lt_of_le_of_lt (Nat.add_le_add_left (Nat.min_le_left _ _) _) (hu d hd)
      obtain ⟨xs, rfl⟩ := tup d hd
      obtain ⟨ys, rfl⟩ := tup d' hd'
      rw [keyLt'_oneType]
      exact oneLt_tuples ra rb hdd hroom hq
    · have e' : EachIs (fun v d => ∃ as, Reads s.heap v d as) vs (([] :: es).map PyData.tuple) := by
        rw [he] at e
        exact e
      have e2 := each_tup e'
      cases vs with
      | nil => exact absurd h2 (by simp)
      | cons v₁ vs => exact kind_empty e2 rfl hq
/-- what is sorted: the data, each with where it stands -/
def dataLeP (x y : V × PyData) : Bool := dataLe false (Prod.snd : V × PyData → PyData) x y
def rSortDt (K : PySem.W.Frag) : List V → Hp → VK → Prop := fun vs H Q => ∃ (a : Addr) (ps : List (V × PyData)), vs = [V.ref a] ∧ SqL K H a (ps.map Prod.fst) ∧ (∀ q ∈ ps, Dp K H q.1 q.2) ∧ AllAlike (ps.map Prod.snd) ∧ SortableE (ps.map Prod.snd) ∧ (∀ q ∈ ps, q.2.depth ≤ 8) ∧
  ∀ z, H z = none → Q (.ref z) (upd H z (.lst ((ps.mergeSort dataLeP).map Prod.fst)))
theorem each_pairs {R : Value → V × PyData → Prop} : ∀ {us : List Value} {ps : List (V × PyData)}, Vals (ps.map Prod.fst) us → (∀ u q, q ∈ ps → RelV q.1 u → R u q) → EachIs R us ps
  | _, [], h, _ => by
    cases h
    exact .nil
  | _, p :: ps, h, hR => by
    cases h with
    | cons h1 h2 => exact .cons (hR _ p List.mem_cons_self h1) (each_pairs h2 fun u q hq => hR u q (List.mem_cons_of_mem _ hq))
theorem pairs_each : ∀ {us : List Value} {ps : List (V × PyData)}, EachIs (fun u q => RelV q.1 u) us ps → Vals (ps.map Prod.fst) us
  | _, _, .nil => .nil
  | _, _, .cons h t => .cons h (pairs_each t)
theorem cr_sortDt {X : Cx} {k : Nat} (hr : Room k X.A) : CallR X (.builtin "sorted") (rSortDt X.K) := by
  intro pins s σ H vs us Q I r h
  obtain ⟨a, ps, rfl, hs, hd, hal, hk, hdp, q⟩ := h
  rw [Vals.ref1 r]
  obtain ⟨its, rv, hl, hz⟩ := I.list hs
  have er : EachIs (fun u (b : V × PyData) => ∃ as, Reads s.heap u b.2 as) its ps := each_pairs rv fun u q mq rq => Dp.reads I q.2 q.1 u (hd q mq) rq
  have e : EachIs (fun u (b : V × PyData) => RelV b.1 u) its ps := each_pairs rv fun u q _ rq => rq
  have un := hr.un
  have er' : EachIs (fun v (b : V × PyData) => ∃ as, Reads (sortingHeap (copyHeap s.heap its) (s.heap.objs.size + 1) its) v b.2 as) its ps := er.mono fun _ _ ⟨as, r⟩ => ⟨as, PyProof.Rows.Reads.keeps (fun _ _ => sorting_copy_old) r⟩
  have lz : its.length ≤ sizeLine := by rw [← rv.length]; exact hz
  refine sorted_vals hl.isList (sortsAtE (s := { s with heap := sortingHeap (copyHeap s.heap its) (s.heap.objs.size + 1) its }) (ds := ps.map Prod.snd) (each_map (R := fun v d => ∃ as, Reads (sortingHeap (copyHeap s.heap its) (s.heap.objs.size + 1) its) v d as) Prod.snd er') hal hk (fun d hd' => ?_)) lz ?_
  · obtain ⟨b, mb, rfl⟩ := List.mem_map.mp hd'
    have := hdp b mb
    show X.A.units + 1 + 1 + b.2.depth < cLine
    omega
  · have so := sortVals_data (h' := sortingHeap (copyHeap s.heap its) (s.heap.objs.size + 1) its) (enc := Prod.snd) false e er' hal
    have ln := sortVals_length (κ := dataKind (sortingHeap (copyHeap s.heap its) (s.heap.objs.size + 1) its) (ps.map Prod.snd)) (vs := its) (ks := its) false rfl
    generalize sortVals (dataKind (sortingHeap (copyHeap s.heap its) (s.heap.objs.size + 1) its) (ps.map Prod.snd)) false its its = out at so ln
    obtain ⟨ep, he'⟩ := PyProof.Rows.sortedAll_at s.heap its out.toArray
    have vo := pairs_each so
    have lz' : (((ps.mergeSort dataLeP).map Prod.fst)).length ≤ sizeLine := by
      rw [List.length_map, List.length_mergeSort]
      rw [List.length_map] at hz
      exact hz
    exact ⟨.ref _, upd H (s.heap.objs.size + 1) (.lst ((ps.mergeSort dataLeP).map Prod.fst)), I.laid (t' := s.toks) (fun _ _ => PyProof.Rows.sortedAll_old) (Nat.le_succ _) ⟨lz', out, ep, vo, he'⟩, rfl, q _ (I.hok.fresh (Nat.le_succ _))⟩
end OC

set_option Elab.async false
set_option linter.all false
set_option maxRecDepth 100000
set_option maxHeartbeats 4000000
/-! parts of a group: tuples of texts, all of them, sorted -/
namespace OC
open PySem PySem.Spec PyProof.Rows L2 PySem.W
def txD (s : List Str) : PyData := .tuple (s.map PyData.str)
theorem dpAll_strs {K : PySem.W.Frag} {H : Hp} : ∀ ns : List Str, DpAll K H (ns.map V.str) (ns.map PyData.str)
  | [] => .nil
  | x :: ns => .cons (.str x) (dpAll_strs ns)
theorem dpAll_str_inv {K : PySem.W.Frag} {H : Hp} : ∀ {xs : List V} {r : List Str}, DpAll K H xs (r.map PyData.str) → xs = r.map V.str
  | _, [], h => by cases h; rfl
  | _, x :: r, h => by
    cases h with
    | cons a b =>
      cases a
      rw [dpAll_str_inv b]
      rfl
theorem dpAll_tx {K : PySem.W.Frag} {H : Hp} {vs : List V} {ss : List (List Str)} {i : Nat} {v : V} (h : DpAll K H vs (ss.map txD)) (e : vs[i]? = some v) : ∃ a s, v = .ref a ∧ ss[i]? = some s ∧ s ∈ ss ∧ SqT K H a (s.map V.str) := by
  obtain ⟨d, g, _, dp⟩ := dpAll_get h e
  rw [List.getElem?_map] at g
  obtain ⟨x, hx, rfl⟩ := Option.map_eq_some_iff.mp g
  unfold txD at dp
  cases dp with
  | tup h1 h2 =>
    rw [dpAll_str_inv h2] at h1
    exact ⟨_, x, rfl, hx, List.mem_of_getElem? hx, h1⟩
theorem noL_strs : ∀ s : List Str, noLAll (s.map PyData.str) = true
  | [] => rfl
  | x :: s => by
    rw [List.map_cons]
    simp only [noLAll, noL, noL_strs s, Bool.and_true]
theorem noL_txs : ∀ ss : List (List Str), noLAll (ss.map txD) = true
  | [] => rfl
  | s :: ss => by
    rw [List.map_cons]
    unfold txD
    simp only [noLAll, noL, noL_strs, Bool.true_and]
    exact noL_txs ss
/-- all the choices of names, in the order of the law -/
def setsR (ns : List Str) : List (List Str) := ns.foldl (fun acc x => acc ++ acc.map (· ++ [x])) [[]]
theorem sets_take {ns : List Str} {i : Nat} {x : Str} (h : ns[i]? = some x) : setsR (ns.take (i + 1)) = setsR (ns.take i) ++ (setsR (ns.take i)).map (· ++ [x]) := by
  unfold setsR
  rw [List.take_add_one, h, List.foldl_append]
  rfl
theorem sets_len : ∀ (ns : List Str) (acc : List (List Str)), (ns.foldl (fun acc x => acc ++ acc.map (· ++ [x])) acc).length = acc.length * 2 ^ ns.length
  | [], acc => by simp
  | x :: ns, acc => by
    rw [List.foldl_cons, sets_len ns, List.length_append, List.length_map, List.length_cons, Nat.pow_succ]
    rw [← Nat.two_mul, Nat.mul_comm 2 acc.length, Nat.mul_assoc, Nat.mul_comm 2]
theorem setsR_len (ns : List Str) : (setsR ns).length = 2 ^ ns.length := by
  unfold setsR
  rw [sets_len]
  simp
theorem sets_item {B : Nat} : ∀ (ns : List Str) (acc : List (List Str)), (∀ s ∈ acc, s.length ≤ B) → ∀ s ∈ ns.foldl (fun acc x => acc ++ acc.map (· ++ [x])) acc, s.length ≤ B + ns.length
  | [], acc, h, s, hs => h s hs
  | x :: ns, acc, h, s, hs => by
    have := sets_item (B := B + 1) ns (acc ++ acc.map (· ++ [x])) (fun y hy => by
      rcases List.mem_append.mp hy with hy | hy
      · exact Nat.le_succ_of_le (h y hy)
      · obtain ⟨z, hz, rfl⟩ := List.mem_map.mp hy
        rw [List.length_append]
        exact Nat.add_le_add_right (h z hz) 1) s hs
    rw [List.length_cons]
    omega

theorem alike_strs : ∀ a b : List Str, alikeAll (a.map PyData.str) (b.map PyData.str) = true
  | [], _ => by simp [alikeAll]
  | _ :: _, [] => by simp [alikeAll]
  | x :: a, y :: b => by
    rw [List.map_cons, List.map_cons, alikeAll, alike_strs a b]
    simp [alike]
theorem alike_tx (a b : List Str) : alike (txD a) (txD b) = true := by
  unfold txD
  rw [alike]
  exact alike_strs a b
theorem depth_strs : ∀ a : List Str, PyData.depthAll (a.map PyData.str) = 0
  | [] => by simp [PyData.depthAll]
  | x :: a => by
    rw [List.map_cons, PyData.depthAll, depth_strs a]
    simp [PyData.depth]
theorem depth_tx (a : List Str) : (txD a).depth = 1 := by
  unfold txD
  rw [PyData.depth, depth_strs]
theorem sets_headF : ∀ (ns : List Str) (acc : List (List Str)), ∃ es, ns.foldl (fun acc x => acc ++ acc.map (· ++ [x])) ([] :: acc) = [] :: es
  | [], acc => ⟨acc, rfl⟩
  | x :: ns, acc => by
    obtain ⟨es, h⟩ := sets_headF ns (acc ++ ([] :: acc).map (· ++ [x]))
    exact ⟨es, h⟩
theorem sets_head (ns : List Str) : ∃ es, setsR ns = [] :: es := sets_headF ns []
theorem sets_sortable (ns : List Str) : SortableE ((setsR ns).map txD) := by
  obtain ⟨es, h⟩ := sets_head ns
  refine .inr ⟨es.map (List.map PyData.str), ?_⟩
  rw [h, List.map_cons, List.map_map]
  rfl
/-- sorted of data: the same things, their data sorted -/
def rSortDd (K : PySem.W.Frag) : List V → Hp → VK → Prop := fun vs H Q => ∃ (a : Addr) (xs : List V) (ds : List PyData), vs = [V.ref a] ∧ SqL K H a xs ∧ DpAll K H xs ds ∧ AllAlike ds ∧ SortableE ds ∧ (∀ d ∈ ds, d.depth ≤ 8) ∧
  ∀ z us, H z = none → us.Perm xs → DpAll K H us (ds.mergeSort (dataLe false id)) → Q (.ref z) (upd H z (.lst us))
theorem zip_of {K : PySem.W.Frag} {H : Hp} : ∀ {xs : List V} {ds : List PyData}, DpAll K H xs ds → (xs.zip ds).map Prod.fst = xs ∧ (xs.zip ds).map Prod.snd = ds ∧ ∀ q ∈ xs.zip ds, Dp K H q.1 q.2
  | _, _, .nil => ⟨rfl, rfl, fun q hq => (nomatch hq)⟩
  | _, _, .cons h t => by
    obtain ⟨a, b, c⟩ := zip_of t
    refine ⟨by rw [List.zip_cons_cons, List.map_cons, a], by rw [List.zip_cons_cons, List.map_cons, b], fun q hq => ?_⟩
    rw [List.zip_cons_cons] at hq
    rcases List.mem_cons.mp hq with rfl | hq
    · exact h
    · exact c q hq
theorem of_pairs {K : PySem.W.Frag} {H : Hp} : ∀ {ps : List (V × PyData)}, (∀ q ∈ ps, Dp K H q.1 q.2) → DpAll K H (ps.map Prod.fst) (ps.map Prod.snd)
  | [], _ => .nil
  | p :: ps, h => .cons (h p List.mem_cons_self) (of_pairs fun q hq => h q (List.mem_cons_of_mem _ hq))
theorem cr_sortDd {X : Cx} {k : Nat} (hr : Room k X.A) : CallR X (.builtin "sorted") (rSortDd X.K) := by
  intro pins s σ H vs us Q I r h
  obtain ⟨a, xs, ds, rfl, hs, hd, hal, hk, hdp, q⟩ := h
  obtain ⟨z1, z2, z3⟩ := zip_of hd
  refine cr_sortDt hr pins s σ H _ us Q I r ⟨a, xs.zip ds, rfl, by rw [z1]; exact hs, z3, by rw [z2]; exact hal, by rw [z2]; exact hk, fun q hq => hdp _ (by rw [← z2]; exact List.mem_map_of_mem hq), fun z nz => ?_⟩
  have pm := List.mergeSort_perm (xs.zip ds) dataLeP
  refine q z _ nz (by have := pm.map Prod.fst; rw [z1] at this; exact this) ?_
  have e : ((xs.zip ds).mergeSort dataLeP).map Prod.snd = ds.mergeSort (dataLe false id) := by
    rw [List.map_mergeSort (r := dataLeP) (s := dataLe false id) (f := Prod.snd) (l := xs.zip ds) (fun a _ b _ => rfl), z2]
  rw [← e]
  exact of_pairs fun q hq => z3 q (pm.mem_iff.mp hq)
theorem sort_map {β : Type} (enc : β → PyData) (gs : List β) : (gs.map enc).mergeSort (dataLe false id) = (gs.mergeSort (dataLe false enc)).map enc := by
  rw [List.map_mergeSort (r := dataLe false enc) (s := dataLe false id) (f := enc) (l := gs) (fun a _ b _ => rfl)]
theorem dpAll_drop {K : PySem.W.Frag} {H : Hp} : ∀ {xs : List V} {ds : List PyData} (k : Nat), DpAll K H xs ds → DpAll K H (xs.drop k) (ds.drop k)
  | _, _, 0, h => h
  | _, _, _ + 1, .nil => .nil
  | _, _, k + 1, .cons _ t => dpAll_drop k t
theorem name_strOk {x : Str} (h : NameOk x) : PyData.strOk x = true := by
  unfold PyData.strOk
  rw [← Array.all_toList]
  refine List.all_eq_true.mpr fun c hc => decide_eq_true ?_
  have := (h.2.2 c hc).2
  omega
theorem shaped_tx (a : List Str) (h : ∀ x ∈ a, NameOk x) : SeqAt.shaped (txD a) = true := by
  unfold SeqAt.shaped
  rw [depth_tx]
  have : ∀ s : List Str, (∀ x ∈ s, NameOk x) → PyData.canLayAll0 (s.map PyData.str) = true := fun s => by
    induction s with
    | nil => exact fun _ => rfl
    | cons x s ih =>
      intro h
      rw [List.map_cons]
      simp only [PyData.canLayAll0, PyData.canLay0, ih fun y hy => h y (List.mem_cons_of_mem _ hy), name_strOk (h x List.mem_cons_self), Bool.and_true]
  unfold txD
  simp only [PyData.canLay0, this a h, Bool.true_and]
  rfl
/-- [x for x in names if t] -/
theorem lc_filterS {J : It} {G : Hp → Prop} {ns : List Str} {σ : L2.St} {H : Hp} {Qd : Addr → Hp → Prop} {i : Nat} {sl : List Nat} {tt : TT} (q : Str → Bool)
    (w : Walk J (ns.map V.str).length G (YAt (ns.map V.str))) (hG : ∀ H', Same H H' → G H') (hz : ns.length ≤ 1000) (hw : ∀ x : Option V, wipe ((wipe σ sl).set i x) sl = wipe σ sl) (hi : i < (wipe σ sl).length)
    (htt : ∀ (x : Str) (H' : Hp) (Q' : Bool → Hp → Prop), x ∈ ns → Same H H' → Q' (q x) H' → tt ((wipe σ sl).set i (some (.str x))) H' Q')
    (hd : ∀ D H', Same H H' → H D = none → H' D = some (.lst ((ns.filter q).map V.str)) → Qd D H') :
    LcGoal J (gName i) tt (tVar i) sl σ H Qd := by
  intro D nD
  refine lc_it w (fun k H' => Same H H' ∧ H' D = some (.lst (((ns.take k).filter q).map V.str))) ⟨same_mut (Same.refl H) nD, upd_same⟩ (fun k H' _ hP => hG H' hP.1) (fun k x H1 H2 hk hP hY => ?_) (fun H' hP => ?_)
  · obtain ⟨rfl, e1⟩ := hY
    obtain ⟨sm, eD⟩ := hP
    rw [List.getElem?_map] at e1
    obtain ⟨y, hy, rfl⟩ := Option.map_eq_some_iff.mp e1
    have ln : ((ns.take k).filter q).length ≤ 1000 := Nat.le_trans (List.length_filter_le _ _) (by rw [List.length_take]; omega)
    refine ⟨hw _, htt y _ _ (List.mem_of_getElem? hy) sm ?_⟩
    have tk : (ns.take (k + 1)).filter q = (ns.take k).filter q ++ (if q y = true then [y] else []) := by
      rw [List.take_add_one, hy, List.filter_append]
      congr 1
      by_cases hq : q y = true
      · simp [hq]
      · simp [hq]
    by_cases hq : q y = true
    · rw [hq]
      refine iteT ⟨.str y, by rw [List.getElem?_set_self hi], _, eD, small1000 (by rw [List.length_map]; exact ln), same_mut sm nD, ?_⟩
      rw [upd_same, tk, if_pos hq, List.map_append]
      rfl
    · have hq' : q y = false := by simpa using hq
      rw [hq']
      refine iteF ⟨sm, ?_⟩
      rw [tk, if_neg hq, List.append_nil]
      exact eD
  · obtain ⟨sm, eD⟩ := hP
    rw [List.length_map, List.take_of_length_le (Nat.le_refl _)] at eD
    exact hd D H' sm nD eD
theorem plain_app_le {p : Int} (hF : Fld p) {n : Nat} : ∀ (ts rs : List (List Int)), RowsOk p n rs → RowsOk p n ts → (plainR p n rs).length ≤ (plainR p n (rs ++ ts)).length
  | [], rs, _, _ => by rw [List.append_nil]; exact Nat.le_refl _
  | t :: ts, rs, h, ht => by
    have o1 := rowsOk_one (ht t List.mem_cons_self)
    have h1 := plain_one_more hF h o1
    have h2 := plain_app_le hF ts (rs ++ [t]) (rowsOk_app h o1) (fun x hx => ht x (List.mem_cons_of_mem _ hx))
    rw [List.append_assoc] at h2
    have h2 : (plainR p n (rs ++ [t])).length ≤ (plainR p n (rs ++ t :: ts)).length := h2
    omega
theorem plain_mono {p : Int} (hF : Fld p) {n : Nat} {rs ts : List (List Int)} (h1 : RowsOk p n rs) (h2 : RowsOk p n ts) (h : ∀ r ∈ rs, InR p ts r) : (plainR p n rs).length ≤ (plainR p n ts).length := by
  have e : plainR p n (rs ++ ts) = plainR p n ts := plain_same hF (rowsOk_app h1 h2) h2 (fun r hr => by
    rcases List.mem_append.mp hr with hr | hr
    · exact h r hr
    · exact InR.mem hr) (fun r hr => InR.mem (List.mem_append_right _ hr))
  rw [← e]
  exact plain_app_le hF ts rs h1 h2
theorem sel_mem {ns : List Str} {r : List Int} : ∀ {hs : List (Str × List (List Int))}, r ∈ selR ns hs → ∃ h ∈ hs, h.1 ∈ ns ∧ r ∈ h.2
  | [], hr => (nomatch hr)
  | h :: hs, hr => by
    have e : selR ns (h :: hs) = (if h.1 ∈ ns then h.2 else []) ++ selR ns hs := rfl
    rw [e] at hr
    rcases List.mem_append.mp hr with hr | hr
    · by_cases hn : h.1 ∈ ns
      · rw [if_pos hn] at hr
        exact ⟨h, List.mem_cons_self, hn, hr⟩
      · rw [if_neg hn] at hr
        exact (nomatch hr)
    · obtain ⟨x, mx, a, b⟩ := sel_mem hr
      exact ⟨x, List.mem_cons_of_mem _ mx, a, b⟩
theorem mem_sel {ns : List Str} {r : List Int} : ∀ {hs : List (Str × List (List Int))} {h : Str × List (List Int)}, h ∈ hs → h.1 ∈ ns → r ∈ h.2 → r ∈ selR ns hs
  | [], _, hh, _, _ => (nomatch hh)
  | x :: hs, h, hh, hn, hr => by
    have e : selR ns (x :: hs) = (if x.1 ∈ ns then x.2 else []) ++ selR ns hs := rfl
    rw [e]
    rcases List.mem_cons.mp hh with rfl | hh
    · rw [if_pos hn]
      exact List.mem_append_left _ hr
    · exact List.mem_append_right _ (mem_sel hh hn hr)
end OC

set_option Elab.async false
set_option linter.all false
set_option maxRecDepth 100000
set_option maxHeartbeats 4000000
/-! partings of a group; comprehensions with two clauses -/
namespace OC
open PySem PySem.Spec PyProof.Rows L2 PySem.W
/-! ### two clauses -/
section
variable {J : It} {n : Nat} {G : Hp → Prop} {Y : Nat → Hp → V → Hp → Prop}
def Inner (J1 : It) (g1 : TG) (tt1 : TT) (te : TE) (vs1 : List Nat) (σ2 : L2.St) (D : Addr) (Nx : Hp → Prop) (H4 : Hp) : Prop := ∃ W1 : Nat → Nat → Hp → Prop, (∃ m, W1 0 m H4) ∧ ∀ j k H, W1 j k H →
      (J1.stop j H ∧ Nx H) ∨ (J1.go j H ∧ ∃ Nx1 : Hp → Prop, (∀ H', Nx1 H' → ∃ k', k' < k ∧ W1 (j + 1) k' H') ∧ ∀ x H', J1.yld j H x H' → g1 x (wipe σ2 vs1) H' fun σ3 H5 => wipe σ3 vs1 = wipe σ2 vs1 ∧ tt1 σ3 H5 fun b H6 =>
        if b = true then te σ3 H6 fun y H7 => ∃ acc, H7 D = some (.lst acc) ∧ acc.length < sizeLine ∧ Nx1 (upd H7 D (.lst (acc ++ [y]))) else Nx1 H6)
theorem inner_it (w : Walk J n G Y) {g : TG} {tt : TT} {te : TE} {vs : List Nat} {σ : L2.St} {H1 : Hp} {D : Addr} {Nx : Hp → Prop} (Pv : Nat → Hp → Prop) (h0 : Pv 0 H1) (hG : ∀ i H, i ≤ n → Pv i H → G H)
    (hs : ∀ i x H H', i < n → Pv i H → Y i H x H' → g x (wipe σ vs) H' fun σ2 H2 => wipe σ2 vs = wipe σ vs ∧ tt σ2 H2 fun b H3 =>
      if b = true then te σ2 H3 fun y H4 => ∃ acc, H4 D = some (.lst acc) ∧ acc.length < sizeLine ∧ Pv (i + 1) (upd H4 D (.lst (acc ++ [y]))) else Pv (i + 1) H3) (hd : ∀ H, Pv n H → Nx H) :
    Inner J g tt te vs σ D Nx H1 := by
  refine ⟨fun i m H => m = n - i ∧ i ≤ n ∧ Pv i H, ⟨n, by simp, Nat.zero_le _, h0⟩, ?_⟩
  rintro i m H ⟨rfl, hi, p⟩
  have q := hG i H hi p
  by_cases hlt : i < n
  · exact .inr ⟨w.goes i H hlt q, Pv (i + 1), fun H' p' => ⟨n - (i + 1), by omega, rfl, hlt, p'⟩, fun x H' y => hs i x H H' hlt p (w.yields i H x H' hlt q y)⟩
  · have e : i = n := by omega
    subst e
    exact .inl ⟨w.stops H q, hd H p⟩
theorem lc2_it (w : Walk J n G Y) {g g1 : TG} {tt tt1 : TT} {wi1 : TI} {te : TE} {vs vs1 : List Nat} {σ : L2.St} {H1 : Hp} {D : Addr} {Qd : Hp → Prop} (Pv : Nat → Hp → Prop) (h0 : Pv 0 (upd H1 D (.lst []))) (hG : ∀ i H, i ≤ n → Pv i H → G H)
    (hs : ∀ i x H H', i < n → Pv i H → Y i H x H' → g x (wipe σ vs) H' fun σ2 H2 => wipe σ2 vs = wipe σ vs ∧ tt σ2 H2 fun b H3 =>
      if b = true then wi1 σ2 H3 fun J1 H4 => Inner J1 g1 tt1 te vs1 σ2 D (Pv (i + 1)) H4 else Pv (i + 1) H3) (hd : ∀ H, Pv n H → Qd H) :
    ∃ W : Nat → Nat → Hp → Prop, (∃ m, W 0 m (upd H1 D (.lst []))) ∧ ∀ i m H, W i m H →
      (J.stop i H ∧ Qd H) ∨ (J.go i H ∧ ∃ Nx : Hp → Prop, (∀ H', Nx H' → ∃ m', m' < m ∧ W (i + 1) m' H') ∧ ∀ x H', J.yld i H x H' → g x (wipe σ vs) H' fun σ2 H2 => wipe σ2 vs = wipe σ vs ∧ tt σ2 H2 fun b H3 =>
        if b = true then wi1 σ2 H3 fun J1 H4 => Inner J1 g1 tt1 te vs1 σ2 D Nx H4 else Nx H3) := by
  refine ⟨fun i m H => m = n - i ∧ i ≤ n ∧ Pv i H, ⟨n, by simp, Nat.zero_le _, h0⟩, ?_⟩
  rintro i m H ⟨rfl, hi, p⟩
  have q := hG i H hi p
  by_cases hlt : i < n
  · exact .inr ⟨w.goes i H hlt q, Pv (i + 1), fun H' p' => ⟨n - (i + 1), by omega, rfl, hlt, p'⟩, fun x H' y => hs i x H H' hlt p (w.yields i H x H' hlt q y)⟩
  · have e : i = n := by omega
    subst e
    exact .inl ⟨w.stops H q, hd H p⟩
end
/-! ### partings as data -/
def ptD (s : List (List Str)) : PyData := .tuple (s.map txD)
theorem noL_pts : ∀ ss : List (List (List Str)), noLAll (ss.map ptD) = true
  | [] => rfl
  | s :: ss => by
    rw [List.map_cons]
    unfold ptD
    simp only [noLAll, noL, noL_txs, Bool.true_and]
    exact noL_pts ss
theorem noL_pt (s : List (List Str)) : noL (ptD s) = true := by
  unfold ptD
  simp only [noL, noL_txs]
theorem alike_txs : ∀ a b : List (List Str), alikeAll (a.map txD) (b.map txD) = true
  | [], _ => by simp [alikeAll]
  | _ :: _, [] => by simp [alikeAll]
  | x :: a, y :: b => by
    rw [List.map_cons, List.map_cons, alikeAll, alike_txs a b, alike_tx]
    rfl
theorem alike_pt (a b : List (List Str)) : alike (ptD a) (ptD b) = true := by
  unfold ptD
  rw [alike]
  exact alike_txs a b
theorem depth_txs : ∀ a : List (List Str), PyData.depthAll (a.map txD) ≤ 1
  | [] => by simp [PyData.depthAll]
  | x :: a => by
    rw [List.map_cons, PyData.depthAll, depth_tx]
    have := depth_txs a
    omega
theorem depth_pt (a : List (List Str)) : (ptD a).depth ≤ 2 := by
  unfold ptD
  rw [PyData.depth]
  have := depth_txs a
  omega
theorem dp_pt {K : PySem.W.Frag} {H : Hp} {v : V} {s : List (List Str)} (h : Dp K H v (ptD s)) : ∃ a vs, v = .ref a ∧ SqT K H a vs ∧ DpAll K H vs (s.map txD) := by
  unfold ptD at h
  cases h with
  | tup h1 h2 => exact ⟨_, _, rfl, h1, h2⟩
theorem dpAll_pt {K : PySem.W.Frag} {H : Hp} {vs : List V} {ss : List (List (List Str))} {i : Nat} {v : V} (h : DpAll K H vs (ss.map ptD)) (e : vs[i]? = some v) : ∃ s, ss[i]? = some s ∧ s ∈ ss ∧ Dp K H v (ptD s) := by
  obtain ⟨d, g, _, dp⟩ := dpAll_get h e
  rw [List.getElem?_map] at g
  obtain ⟨x, hx, rfl⟩ := Option.map_eq_some_iff.mp g
  exact ⟨x, hx, List.mem_of_getElem? hx, dp⟩
/-! ### the splits of some names -/
def growR (x : Str) (s : List (List Str)) : List (List (List Str)) := (List.range s.length).map (fun k => s.take k ++ ([s.getD k [] ++ [x]] ++ s.drop (k + 1))) ++ [s ++ [[x]]]
def splitsR (ns : List Str) : List (List (List Str)) := ns.foldl (fun acc x => acc.flatMap (growR x)) [[]]
theorem splits_take {ns : List Str} {i : Nat} {x : Str} (h : ns[i]? = some x) : splitsR (ns.take (i + 1)) = (splitsR (ns.take i)).flatMap (growR x) := by
  unfold splitsR
  rw [List.take_add_one, h, List.foldl_append]
  rfl
theorem grow_len (x : Str) (s : List (List Str)) : (growR x s).length = s.length + 1 := by
  unfold growR
  rw [List.length_append, List.length_map, List.length_range]
  rfl
structure SplitOk (ns : List Str) (s : List (List Str)) : Prop where
  pm : s.flatten.Perm ns
  ne : ∀ p ∈ s, p ≠ []
  le : s.length ≤ ns.length
theorem grow_mem {x : Str} {s t : List (List Str)} (h : t ∈ growR x s) : (∃ k, k < s.length ∧ t = s.take k ++ ([s.getD k [] ++ [x]] ++ s.drop (k + 1))) ∨ t = s ++ [[x]] := by
  unfold growR at h
  rcases List.mem_append.mp h with h | h
  · obtain ⟨k, mk, rfl⟩ := List.mem_map.mp h
    exact .inl ⟨k, List.mem_range.mp mk, rfl⟩
  · exact .inr (List.mem_singleton.mp h)
theorem split_at {s : List (List Str)} {k : Nat} (h : k < s.length) : s = s.take k ++ ([s.getD k []] ++ s.drop (k + 1)) := by
  have e : s.getD k [] = s[k] := by rw [List.getD_eq_getElem?_getD, List.getElem?_eq_getElem h]; rfl
  rw [e]
  have : [s[k]] ++ s.drop (k + 1) = s.drop k := (List.drop_eq_getElem_cons h).symm
  rw [this, List.take_append_drop]
theorem grow_ok {ns : List Str} {x : Str} {s t : List (List Str)} (o : SplitOk ns s) (h : t ∈ growR x s) : SplitOk (ns ++ [x]) t := by
  rcases grow_mem h with ⟨k, hk, rfl⟩ | rfl
  · have es := split_at hk
    refine ⟨?_, fun p hp => ?_, ?_⟩
    · have pm := o.pm
      rw [es] at pm
      simp only [List.flatten_append, List.flatten_cons, List.flatten_nil, List.append_nil] at pm ⊢
      refine List.Perm.trans ?_ (pm.append_right [x])
      simp only [List.append_assoc]
      refine List.Perm.append_left _ (List.Perm.append_left _ ?_)
      exact List.perm_append_comm
    · rcases List.mem_append.mp hp with hp | hp
      · exact o.ne p (List.mem_of_mem_take hp)
      · rcases List.mem_append.mp hp with hp | hp
        · rw [List.mem_singleton.mp hp]
          simp
        · exact o.ne p (List.mem_of_mem_drop hp)
    · have := o.le
      simp only [List.length_append, List.length_take, List.length_drop, List.length_cons, List.length_nil]
      omega
  · refine ⟨?_, fun p hp => ?_, ?_⟩
    · rw [List.flatten_append]
      exact o.pm.append_right [x]
    · rcases List.mem_append.mp hp with hp | hp
      · exact o.ne p hp
      · rw [List.mem_singleton.mp hp]
        simp
    · have := o.le
      simp only [List.length_append, List.length_cons, List.length_nil]
      omega
theorem splits_okF : ∀ (ns ms : List Str) (acc : List (List (List Str))), (∀ s ∈ acc, SplitOk ms s) → ∀ t ∈ ns.foldl (fun acc x => acc.flatMap (growR x)) acc, SplitOk (ms ++ ns) t
  | [], ms, acc, h, t, ht => by rw [List.append_nil]; exact h t ht
  | x :: ns, ms, acc, h, t, ht => by
    have := splits_okF ns (ms ++ [x]) (acc.flatMap (growR x)) (fun s hs => by
      obtain ⟨u, mu, hu⟩ := List.mem_flatMap.mp hs
      exact grow_ok (h u mu) hu) t ht
    rwa [List.append_assoc] at this
theorem splits_ok {ns : List Str} {s : List (List Str)} (h : s ∈ splitsR ns) : SplitOk ns s := by
  have := splits_okF ns [] [[]] (fun s hs => by
    rw [List.mem_singleton.mp hs]
    exact ⟨.refl _, fun p hp => (nomatch hp), Nat.le_refl _⟩) s h
  exact this
theorem splits_lenF {B : Nat} : ∀ (acc : List (List (List Str))) (x : Str), (∀ s ∈ acc, s.length ≤ B) → (acc.flatMap (growR x)).length ≤ acc.length * (B + 1)
  | [], _, _ => by simp
  | s :: acc, x, h => by
    rw [List.flatMap_cons, List.length_append, grow_len, List.length_cons, Nat.succ_mul]
    have := splits_lenF acc x fun t ht => h t (List.mem_cons_of_mem _ ht)
    have := h s List.mem_cons_self
    omega
theorem splits_len {ns : List Str} : ∀ i, i ≤ ns.length → i ≤ 6 → (splitsR (ns.take i)).length ≤ 720 := by
  have fac : ∀ i, i ≤ ns.length → (splitsR (ns.take i)).length ≤ (List.range i).foldl (fun a k => a * (k + 1)) 1 := by
    intro i
    induction i with
    | zero => intro _; rw [List.take_zero]; exact Nat.le_refl _
    | succ i ih =>
      intro hi
      have hx : ns[i]? = some ns[i] := List.getElem?_eq_getElem (by omega)
      rw [splits_take hx, List.range_succ, List.foldl_append]
      refine Nat.le_trans (splits_lenF (B := i) _ _ fun s hs => ?_) (Nat.mul_le_mul_right _ (ih (by omega)))
      have := (splits_ok hs).le
      rw [List.length_take] at this
      omega
  intro i hi h6
  refine Nat.le_trans (fac i hi) ?_
  have : ∀ j : Fin 7, (List.range j.val).foldl (fun a k => a * (k + 1)) 1 ≤ 720 := by decide
  exact this ⟨i, by omega⟩
theorem splits_singleF : ∀ (ns ms : List Str) (acc : List (List (List Str))), ms.map (fun x => [x]) ∈ acc → (ms ++ ns).map (fun x => [x]) ∈ ns.foldl (fun acc x => acc.flatMap (growR x)) acc
  | [], ms, acc, h => by rw [List.append_nil]; exact h
  | x :: ns, ms, acc, h => by
    have := splits_singleF ns (ms ++ [x]) (acc.flatMap (growR x)) (List.mem_flatMap.mpr ⟨_, h, by
      unfold growR
      rw [List.map_append]
      exact List.mem_append_right _ List.mem_cons_self⟩)
    rwa [List.append_assoc] at this
theorem splits_single (ns : List Str) : ns.map (fun x => [x]) ∈ splitsR ns := splits_singleF ns [] [[]] List.mem_cons_self
/-- all partings of a group, rising -/
def partingsR (ns : List Str) : List (List (List Str)) := ((splitsR ns).filter fun s => decide (s.length > 1)).mergeSort (dataLe false ptD)
theorem partings_mem {ns : List Str} {s : List (List Str)} : s ∈ partingsR ns ↔ s ∈ splitsR ns ∧ 1 < s.length := by
  unfold partingsR
  rw [(List.mergeSort_perm _ _).mem_iff, List.mem_filter]
  exact ⟨fun h => ⟨h.1, of_decide_eq_true h.2⟩, fun h => ⟨h.1, decide_eq_true h.2⟩⟩
theorem partings_sortable (ns : List Str) : SortableE (((splitsR ns).filter fun s => decide (s.length > 1)).map ptD) := by
  refine .inl (.inl fun d hd => ?_)
  obtain ⟨s, ms, rfl⟩ := List.mem_map.mp hd
  have l := of_decide_eq_true (List.mem_filter.mp ms).2
  unfold ptD
  cases s with
  | nil => exact absurd l (by decide)
  | cons x s => exact ⟨_, _, rfl⟩
end OC

set_option Elab.async false
set_option linter.all false
set_option maxRecDepth 100000
set_option maxHeartbeats 4000000
/-! how much hands know together: partings of a group -/
namespace OC
open PySem PySem.Spec PyProof.Rows L2
/-- what a look at a stand asks of it -/
structure StandR (p : Int) (n : Nat) (kn : List (List Int)) (hs : List (Str × List (List Int))) : Prop where
  fld : Fld p
  p1 : p ≤ 1000
  n1 : 1 ≤ n
  n8 : n ≤ 8
  ok : RowsOk p n kn
  lk : kn.length ≤ 8
  many : hs.length ≤ 9
  rm : ∀ x ∈ hs, RowsOk p n x.2
  lr : ∀ x ∈ hs, x.2.length ≤ 8
theorem Stand5.toR {p : Int} {n : Nat} {kn : List (List Int)} {hs : List (Str × List (List Int))} (S : Stand5 p n kn hs) : StandR p n kn hs where
  fld := S.fld
  p1 := S.p1
  n1 := S.n1
  n8 := S.n8
  ok := S.pk.1
  lk := Nat.le_trans (PFR.len S.fld S.pk) S.n8
  many := S.many
  rm := fun x hx => (S.ph x hx).1
  lr := fun x hx => Nat.le_trans (PFR.len S.fld (S.ph x hx)) S.n8
/-- how much some hands know together beyond the calls -/
def sizeR (p : Int) (n : Nat) (kn : List (List Int)) (hs : List (Str × List (List Int))) (ns : List Str) : Int := ((plainR p n (kn ++ selR ns hs)).length : Int) - (kn.length : Int)
section
variable {p : Int} {n : Nat} {kn : List (List Int)} {hs : List (Str × List (List Int))}
theorem sel_congr {ns ms : List Str} (h : ∀ x, x ∈ ns ↔ x ∈ ms) : ∀ hs : List (Str × List (List Int)), selR ns hs = selR ms hs
  | [] => rfl
  | x :: hs => by
    have e : ∀ zs, selR zs (x :: hs) = (if x.1 ∈ zs then x.2 else []) ++ selR zs hs := fun _ => rfl
    rw [e, e, sel_congr h hs]
    congr 1
    by_cases hn : x.1 ∈ ns
    · rw [if_pos hn, if_pos ((h _).mp hn)]
    · rw [if_neg hn, if_neg (fun z => hn ((h _).mpr z))]
theorem size_congr {ns ms : List Str} (h : ∀ x, x ∈ ns ↔ x ∈ ms) : sizeR p n kn hs ns = sizeR p n kn hs ms := by
  unfold sizeR
  rw [sel_congr h]
theorem size_mono (G : StandR p n kn hs) {ns ms : List Str} (h : ∀ x ∈ ns, x ∈ ms) : sizeR p n kn hs ns ≤ sizeR p n kn hs ms := by
  have := plain_mono G.fld (n := n) (rs := kn ++ selR ns hs) (ts := kn ++ selR ms hs) (rowsOk_app G.ok (sel_ok G.rm)) (rowsOk_app G.ok (sel_ok G.rm)) (fun r hr => by
    rcases List.mem_append.mp hr with hr | hr
    · exact InR.mem (List.mem_append_left _ hr)
    · obtain ⟨x, mx, a, b⟩ := sel_mem hr
      exact InR.mem (List.mem_append_right _ (mem_sel mx (h _ a) b)))
  unfold sizeR
  omega
theorem size_pos (S : Stand5 p n kn hs) (ns : List Str) : 0 ≤ sizeR p n kn hs ns := by
  have := plain_app_le S.fld (selR ns hs) kn S.pk.1 (sel_ok S.toR.rm)
  rw [S.pk.2] at this
  unfold sizeR
  omega
theorem size_le (S : Stand5 p n kn hs) (ns : List Str) : sizeR p n kn hs ns ≤ 8 := by
  have := plainR_lenle S.fld (n := n) (rows := kn ++ selR ns hs) (rowsOk_app S.pk.1 (sel_ok S.toR.rm))
  have := S.n8
  unfold sizeR
  omega
/-- both together know at most what each knows, and what they share beyond the calls less -/
theorem size_both (S : Stand5 p n kn hs) (ns ms : List Str) : sizeR p n kn hs (ns ++ ms) + (((meetR p n (plainR p n (kn ++ selR ns hs)) (plainR p n (kn ++ selR ms hs))).length : Int) - (kn.length : Int)) = sizeR p n kn hs ns + sizeR p n kn hs ms := by
  have F := S.fld
  have o1 : RowsOk p n (kn ++ selR ns hs) := rowsOk_app S.pk.1 (sel_ok S.toR.rm)
  have o2 : RowsOk p n (kn ++ selR ms hs) := rowsOk_app S.pk.1 (sel_ok S.toR.rm)
  have o3 : RowsOk p n (kn ++ selR (ns ++ ms) hs) := rowsOk_app S.pk.1 (sel_ok S.toR.rm)
  have p1 := PFR.of_plain F o1
  have p2 := PFR.of_plain F o2
  have sz := meet_sizes F p1 p2
  have ej : joinR p n (plainR p n (kn ++ selR ns hs)) (plainR p n (kn ++ selR ms hs)) = plainR p n (kn ++ selR (ns ++ ms) hs) := by
    unfold joinR
    refine plain_same F (rowsOk_app p1.1 p2.1) o3 (fun r hr => ?_) (fun r hr => ?_)
    · rcases List.mem_append.mp hr with hr | hr
      · refine InR.mono (fun x hx => ?_) ((InR.plain F o1).mp (InR.mem hr))
        rcases List.mem_append.mp hx with hx | hx
        · exact InR.mem (List.mem_append_left _ hx)
        · obtain ⟨y, my, a, b⟩ := sel_mem hx
          exact InR.mem (List.mem_append_right _ (mem_sel my (List.mem_append_left _ a) b))
      · refine InR.mono (fun x hx => ?_) ((InR.plain F o2).mp (InR.mem hr))
        rcases List.mem_append.mp hx with hx | hx
        · exact InR.mem (List.mem_append_left _ hx)
        · obtain ⟨y, my, a, b⟩ := sel_mem hx
          exact InR.mem (List.mem_append_right _ (mem_sel my (List.mem_append_right _ a) b))
    · rcases List.mem_append.mp hr with hr | hr
      · exact InR.left ((InR.plain F o1).mpr (InR.mem (List.mem_append_left _ hr)))
      · obtain ⟨y, my, a, b⟩ := sel_mem hr
        rcases List.mem_append.mp a with a | a
        · exact InR.left ((InR.plain F o1).mpr (InR.mem (List.mem_append_right _ (mem_sel my a b))))
        · exact InR.right ((InR.plain F o2).mpr (InR.mem (List.mem_append_right _ (mem_sel my a b))))
  rw [ej] at sz
  unfold sizeR
  omega
theorem meet_ge (S : Stand5 p n kn hs) (ns ms : List Str) : (kn.length : Int) ≤ ((meetR p n (plainR p n (kn ++ selR ns hs)) (plainR p n (kn ++ selR ms hs))).length : Int) := by
  have F := S.fld
  have o1 : RowsOk p n (kn ++ selR ns hs) := rowsOk_app S.pk.1 (sel_ok S.toR.rm)
  have o2 : RowsOk p n (kn ++ selR ms hs) := rowsOk_app S.pk.1 (sel_ok S.toR.rm)
  have p1 := PFR.of_plain F o1
  have p2 := PFR.of_plain F o2
  have pm := meet_pf (n := n) (one := plainR p n (kn ++ selR ns hs)) (other := plainR p n (kn ++ selR ms hs)) F
  have := plain_mono F (n := n) S.pk.1 pm.1 fun r hr => (InR.meet F p1 p2 r).mpr ⟨(InR.plain F o1).mpr (InR.mem (List.mem_append_left _ hr)), (InR.plain F o2).mpr (InR.mem (List.mem_append_left _ hr))⟩
  rw [S.pk.2, pm.2] at this
  omega
theorem size_app (S : Stand5 p n kn hs) (ns ms : List Str) : sizeR p n kn hs (ns ++ ms) ≤ sizeR p n kn hs ns + sizeR p n kn hs ms := by
  have := size_both S ns ms
  have := meet_ge S ns ms
  omega
theorem size_flat (S : Stand5 p n kn hs) : ∀ P : List (List Str), sizeR p n kn hs P.flatten ≤ (P.map (sizeR p n kn hs)).sum
  | [] => by
    have : sizeR p n kn hs [] = 0 := by
      have e : selR ([] : List Str) hs = [] := by
        have : ∀ hs : List (Str × List (List Int)), selR ([] : List Str) hs = [] := by
          intro hs
          induction hs with
          | nil => rfl
          | cons x hs ih =>
            show (if x.1 ∈ ([] : List Str) then x.2 else []) ++ selR [] hs = []
            rw [ih]
            simp
        exact this hs
      unfold sizeR
      rw [e, List.append_nil, S.pk.2]
      omega
    rw [show ([] : List (List Str)).flatten = [] from rfl, this]
    exact Int.le_refl _
  | q :: P => by
    have := size_app S q P.flatten
    have := size_flat S P
    rw [List.flatten_cons, List.map_cons, List.sum_cons]
    omega
theorem sum_le_mul (S : Stand5 p n kn hs) {ms : List Str} : ∀ P : List (List Str), (∀ q ∈ P, ∀ x ∈ q, x ∈ ms) → (P.map (sizeR p n kn hs)).sum ≤ (P.length : Int) * sizeR p n kn hs ms
  | [], _ => by simp
  | q :: P, h => by
    have := sum_le_mul S P fun r hr => h r (List.mem_cons_of_mem _ hr)
    have := size_mono S.toR (h q List.mem_cons_self)
    rw [List.map_cons, List.sum_cons, List.length_cons, show (((P.length + 1 : Nat)) : Int) = (P.length : Int) + 1 by omega, Int.add_mul, Int.one_mul]
    omega
theorem sum_bd (S : Stand5 p n kn hs) : ∀ P : List (List Str), 0 ≤ (P.map (sizeR p n kn hs)).sum ∧ (P.map (sizeR p n kn hs)).sum ≤ 8 * P.length
  | [] => ⟨Int.le_refl _, by simp⟩
  | q :: P => by
    have := sum_bd S P
    have := size_pos S q
    have := size_le S q
    rw [List.map_cons, List.sum_cons, List.length_cons]
    omega
end
/-- [f(part) for part in parting], whole numbers -/
theorem lc_partsI {K : PySem.W.Frag} {a : Addr} {vs : List V} {P : List (List Str)} {σ : L2.St} {H : Hp} {Qd : Addr → Hp → Prop} {i : Nat} {sl : List Nat} {te : TE} (f : List Str → Int) (hA : SqT K H a vs) (hD : DpAll K H vs (P.map txD)) (hz : P.length ≤ 1000)
    (hw : ∀ x : Option V, wipe ((wipe σ sl).set i x) sl = wipe σ sl)
    (hte : ∀ (b : Addr) (q : List Str) (H' : Hp) (Q' : VK), q ∈ P → SqT K H' b (q.map V.str) → Same H H' → (∀ H'', Same H' H'' → Q' (.int (f q)) H'') → te ((wipe σ sl).set i (some (.ref b))) H' Q')
    (hd : ∀ D H', Same H H' → H D = none → H' D = some (.lst ((P.map f).map V.int)) → Qd D H') :
    LcGoal (Itt K a) (gName i) tYes te sl σ H Qd := by
  intro D nD
  have lv := dpAll_len hD
  rw [List.length_map] at lv
  refine lc_it (walk_tup (K := K) (a := a) (xs := vs)) (fun k H' => Same H H' ∧ H' D = some (.lst (((P.take k).map f).map V.int))) ⟨same_mut (Same.refl H) nD, upd_same⟩ (fun k H' _ hP => Same.tup hP.1 hA) (fun k x H1 H2 hk hP hY => ?_) (fun H' hP => ?_)
  · obtain ⟨rfl, e1⟩ := hY
    obtain ⟨sm, eD⟩ := hP
    obtain ⟨b, q, rfl, gq, mq, hb⟩ := dpAll_tx (dpAll_same sm _ _ hD) e1
    refine ⟨hw _, hte b q _ _ mq hb sm fun H'' s2 => ⟨_, s2 _ _ eD, ?_, same_mut (sm.trans s2) nD, ?_⟩⟩
    · rw [List.length_map, List.length_map, List.length_take]
      exact small1000 (by omega)
    · rw [upd_same, List.take_add_one, gq, List.map_append, List.map_append]
      rfl
  · obtain ⟨sm, eD⟩ := hP
    rw [List.take_of_length_le (by omega)] at eD
    exact hd D H' sm nD eD
/-- some of a list's things, drawn again and again: data without lists -/
theorem lc_someD {K : PySem.W.Frag} {d c e : Addr} {t : Int} {m : Nat} {ws : List V} {ds : List PyData} {σ : L2.St} {H : Hp} {Qd : Addr → Hp → Prop} {i : Nat} {sl : List Nat} {te : TE} (D0 : Drw H d c e t) (hD : DpAll K H ws ds) (hn : noLAll ds = true) (hm : m ≤ 100) (hw : ∀ x : Option V, wipe ((wipe σ sl).set i x) sl = wipe σ sl)
    (hte : ∀ (x : V) (k : Nat) (t' : Int) (H' : Hp) (Q' : VK), Kept d e H H' → Drw H' d c e t' → t' ≤ t + k → k < m → (∀ H'' v, Kept d e H' H'' → Drw H'' d c e (t' + 1) → v ∈ ws → Q' v H'') → te ((wipe σ sl).set i (some x)) H' Q')
    (hd : ∀ (D : Addr) (H' : Hp) (t' : Int) (us : List V) (es : List PyData), Kept d e H H' → Drw H' d c e t' → t' ≤ t + m → H D = none → H' D = some (.lst us) → DpAll K H' us es → es.length = m → (∀ x ∈ es, x ∈ ds) → Qd D H') :
    LcGoal (Itr 0 m) (gName i) tYes te sl σ H Qd := by
  intro D nD
  have bD := D0.fresh nD
  refine lc_range (lo := 0) (n := m) (fun k H' => Kept d e H H' ∧ ∃ (t' : Int) (us : List V) (es : List PyData), Drw H' d c e t' ∧ t' ≤ t + k ∧ H' D = some (.lst us) ∧ DpAll K H' us es ∧ es.length = k ∧ ∀ x ∈ es, x ∈ ds) ⟨Kept.of (same_upd nD), t, [], [], D0.same (same_upd nD), by omega, upd_same, .nil, rfl, fun x hx => (nomatch hx)⟩ (fun k H' hk hW => ?_) (fun H' hW => ?_)
  · obtain ⟨k', t', us, es, D', ht', eB, dp, ln, ro⟩ := hW
    refine ⟨hw _, hte _ k t' H' _ k' D' ht' hk fun H1 v k1 D1 mv => ?_⟩
    have eB1 := Drw.lst (c := c) k1 bD eB
    obtain ⟨j, hj, rfl⟩ := List.getElem_of_mem mv
    obtain ⟨x, gx, mx, hx⟩ := dpAll_get hD (List.getElem?_eq_getElem hj)
    have lw := dpAll_len dp
    have tk : Tk H1 (upd H1 D (.lst (us ++ [ws[j]]))) := (Tk.refl _).mut eB1
    have nes : noLAll es = true := noLAll_of fun y hy => noLAll_mem hn y (ro y hy)
    refine ⟨us, eB1, small1000 (by omega), (k'.trans k1).mut nD, t' + 1, us ++ [ws[j]], es ++ [x], D1.mut bD, by omega, upd_same, ?_, by rw [List.length_append, ln]; rfl, fun y hy => ?_⟩
    · exact dpAll_append (dpAll_tk tk _ _ nes (dpAll_tk (D'.tk k1) _ _ nes dp)) (.cons (dp_tk ((D0.tk (k'.trans k1)).trans tk) _ _ (noLAll_mem hn x mx) hx) .nil)
    · rcases List.mem_append.mp hy with h | h
      · exact ro y h
      · rw [List.mem_singleton.mp h]
        exact mx
  · obtain ⟨k', t', us, es, D', ht', eB, dp, ln, ro⟩ := hW
    exact hd D H' t' us es k' D' ht' nD eB dp ln ro
/-- [(name,) for name in names] -/
theorem lc_singles {K : PySem.W.Frag} {a : Addr} {ns : List Str} {σ : L2.St} {H : Hp} {Qd : Addr → Hp → Prop} {i : Nat} {sl : List Nat} (hA : SqT K H a (ns.map V.str)) (hz : ns.length ≤ 100) (hw : ∀ x : Option V, wipe ((wipe σ sl).set i x) sl = wipe σ sl) (hi : i < (wipe σ sl).length)
    (hd : ∀ D H' ws, Same H H' → H D = none → H' D = some (.lst ws) → DpAll K H' ws ((ns.map fun x => [x]).map txD) → Qd D H') :
    LcGoal (Itt K a) (gName i) tYes (tTup (tCons (tVar i) tNil)) sl σ H Qd := by
  intro D nD
  refine lc_it (walk_tup (K := K) (a := a) (xs := ns.map V.str)) (fun k H' => Same H H' ∧ ∃ ws, H' D = some (.lst ws) ∧ ws.length = k ∧ DpAll K H' ws (((ns.take k).map fun x => [x]).map txD)) ⟨same_mut (Same.refl H) nD, [], upd_same, rfl, .nil⟩ (fun k H' _ hP => Same.tup hP.1 hA) (fun k x H1 H2 hk hP hY => ?_) (fun H' hP => ?_)
  · obtain ⟨rfl, e1⟩ := hY
    obtain ⟨sm, ws, eD, lw, dw⟩ := hP
    rw [List.getElem?_map] at e1
    obtain ⟨y, hy, rfl⟩ := Option.map_eq_some_iff.mp e1
    rw [List.length_map] at hk
    refine ⟨hw _, .str y, by rw [List.getElem?_set_self hi], sz1000 (by decide : (1 : Nat) ≤ 1000), fun o no => ?_⟩
    dsimp only
    generalize g1 : upd _ o _ = H3
    obtain ⟨t1, e1⟩ := new_of g1 no
    have eD3 := t1 _ _ eD
    have tk : Tk H3 (upd H3 D (.lst (ws ++ [.ref o]))) := (Tk.refl _).mut eD3
    refine ⟨ws, eD3, small1000 (by omega), same_mut (sm.trans t1) nD, ws ++ [.ref o], upd_same, by rw [List.length_append, lw]; rfl, ?_⟩
    rw [List.take_add_one, hy, List.map_append, List.map_append]
    exact dpAll_append (dpAll_tk ((Tk.of t1).trans tk) _ _ (noL_txs _) dw) (.cons (.tup (xs := [.str y]) (tk _ _ _ (.inl (.inl e1))) (dpAll_strs [y])) .nil)
  · obtain ⟨sm, ws, eD, lw, dw⟩ := hP
    rw [List.length_map, List.take_of_length_le (Nat.le_refl _)] at dw
    exact hd D H' ws sm nD eD dw
/-- a parting of a group, in any order -/
structure PtOk (ms : List Str) (P : List (List Str)) : Prop where
  pm : P.flatten.Perm ms
  two : 2 ≤ P.length
  le : P.length ≤ ms.length
theorem pt_of {ms : List Str} {P : List (List Str)} (h : P ∈ partingsR ms) : PtOk ms P := by
  obtain ⟨a, b⟩ := partings_mem.mp h
  have o := splits_ok a
  exact ⟨o.pm, b, o.le⟩
theorem flat_single (ms : List Str) : (ms.map fun x => [x]).flatten = ms := by
  induction ms with
  | nil => rfl
  | cons x ms ih => rw [List.map_cons, List.flatten_cons, ih]; rfl
theorem pt_single {ms : List Str} (h : 2 ≤ ms.length) : PtOk ms (ms.map fun x => [x]) := ⟨by rw [flat_single], by rw [List.length_map]; exact h, by rw [List.length_map]; exact Nat.le_refl _⟩
theorem pt_first {ms : List Str} (h : 2 ≤ ms.length) : PtOk ms [ms.take 1, ms.drop 1] := ⟨by
  rw [List.flatten_cons, List.flatten_cons, List.flatten_nil, List.append_nil, List.take_append_drop], Nat.le_refl _, h⟩
theorem partings_pos {ms : List Str} (h : 2 ≤ ms.length) : 0 < (partingsR ms).length := by
  have : ms.map (fun x => [x]) ∈ partingsR ms := partings_mem.mpr ⟨splits_single ms, by rw [List.length_map]; omega⟩
  exact List.length_pos_of_mem this
end OC

set_option Elab.async false
set_option linter.all false
set_option maxRecDepth 100000
set_option maxHeartbeats 4000000
/-! sorted of a tuple of data -/
namespace OC
open PySem PySem.W PySem.Spec PyProof.Rows L2 SeqAt
section
variable {prog : Program} {w : World} {A : Around} {E : Value → Shared → Prop} {s : Shared} {κ : PyProof.Rows.KeyKind}
/-- sorted of a tuple: the items are gathered in a new list, which is sorted in place -/
theorem sorted_tup {l : Addr} {vs : List Value} {Q : Value → Shared → Prop} (κ : Heap → PyProof.Rows.KeyKind) (hl : IsTup s.heap l vs.toArray) (hL : vs.length ≤ sizeLine)
    (S : ∀ h1 : Heap, (∀ b o, s.heap.get? b = some o → h1.get? b = some o) → SortsAt prog w A.in1.in1 { s with heap := h1 } (κ h1) vs)
    (h : ∀ (h0 h1 h2 : Heap) (e : Nat), (∀ b o, s.heap.get? b = some o → h0.get? b = some o) → (∀ b o, s.heap.get? b = some o → h1.get? b = some o) → (∀ b o, h0.get? b = some o → h2.get? b = some o) → h2.get? h0.objs.size = some (seqObj "list" (sortVals (κ h1) false vs vs).toArray e) → Q (.ref h0.objs.size) { s with heap := h2 }) :
    wpAny (model prog w) A (call (.builtin "sorted") [.ref l]) Q E s := by
  obtain ⟨o, ho, hc, n, hd⟩ := id hl
  refine Calls.call_function_entry kind_sorted plain_sorted entry_sorted (args_sorted1 _) ?_
  unfold Builtin.«sorted»
  refine wpAny_bind (m := checkCount "sorted" 1 1 _) (wpAny_pure (wpAny_bind (wpAny_collect_seq l (.inr rfl) ho hc hd (fun h' kp => ?_) (by simpa using hL))))
  refine wpAny_bind (wpAny_newList (items := vs.toArray.toList) ?_ (by simpa using hL))
  have ev : vs.toArray.toList = vs := by simp
  rw [ev]
  have at0 : (h'.push (seqObj "list" vs.toArray 0)).get? h'.objs.size = some (seqObj "list" vs.toArray 0) := Heap.get?_push_size _ rfl
  have ks : ∀ b u, h'.get? b = some u → (h'.push (seqObj "list" vs.toArray 0)).get? b = some u := fun b u e => Heap.get?_push_of_some _ e
  have nb : ∀ b u, h'.get? b = some u → b ≠ h'.objs.size := fun b u e z => Nat.lt_irrefl _ (z ▸ Heap.lt_size e)
  have k1 : ∀ b u, s.heap.get? b = some u → (sortingHeap (h'.push (seqObj "list" vs.toArray 0)) h'.objs.size vs).get? b = some u := fun b u e => sortingHeap_old (nb b u (kp b u e)) (ks b u (kp b u e))
  obtain ⟨ep, he⟩ := PyProof.Rows.sortedHeap_at (out := (sortVals (κ (sortingHeap (h'.push (seqObj "list" vs.toArray 0)) h'.objs.size vs)) false vs vs).toArray) at0
  have fin := h h' _ (sortedHeap (h'.push (seqObj "list" vs.toArray 0)) h'.objs.size vs (sortVals (κ (sortingHeap (h'.push (seqObj "list" vs.toArray 0)) h'.objs.size vs)) false vs vs).toArray) ep kp k1 (fun b u e => (PyProof.Rows.sortedHeap_old (nb b u e) (Heap.lt_size (ks b u e))).trans (ks b u e)) he
  refine wpAny_bind (wpAny_holding (wpAny_call_entry_kw slot_list_sort ⟨_, at0, rfl⟩ entry_list_sort ?_ (args_list_sort _)))
  exact list_sort_vals (s := { s with heap := h'.push (seqObj "list" vs.toArray 0) }) at0 (S _ k1) hL ⟨_, rfl, wpAny_pure ⟨_, rfl, fin⟩⟩
end
def rSortDtT (K : PySem.W.Frag) : List V → Hp → VK → Prop := fun vs H Q => ∃ (a : Addr) (ps : List (V × PyData)), vs = [V.ref a] ∧ SqT K H a (ps.map Prod.fst) ∧ (∀ q ∈ ps, Dp K H q.1 q.2) ∧ AllAlike (ps.map Prod.snd) ∧ SortableE (ps.map Prod.snd) ∧ (∀ q ∈ ps, q.2.depth ≤ 8) ∧
  ∀ z, H z = none → Q (.ref z) (upd H z (.lst ((ps.mergeSort dataLeP).map Prod.fst)))
theorem cr_sortDtT {X : Cx} {k : Nat} (hr : Room k X.A) : CallR X (.builtin "sorted") (rSortDtT X.K) := by
  intro pins s σ H vs us Q I r h
  obtain ⟨a, ps, rfl, hs, hd, hal, hk, hdp, q⟩ := h
  rw [Vals.ref1 r]
  obtain ⟨its, rv, hl, hz⟩ := I.tuple hs
  have er : EachIs (fun u (b : V × PyData) => ∃ as, Reads s.heap u b.2 as) its ps := each_pairs rv fun u q mq rq => Dp.reads I q.2 q.1 u (hd q mq) rq
  have e : EachIs (fun u (b : V × PyData) => RelV b.1 u) its ps := each_pairs rv fun u q _ rq => rq
  have un := hr.un
  have lz : its.length ≤ sizeLine := by rw [← rv.length]; exact hz
  refine sorted_tup (fun h1 => dataKind h1 (ps.map Prod.snd)) hl lz (fun h1 k1 => ?_) fun h0 h1 h2 ep k0 k1 k2 at2 => ?_
  · have er' : EachIs (fun v (b : V × PyData) => ∃ as, Reads h1 v b.2 as) its ps := er.mono fun _ _ ⟨as, r⟩ => ⟨as, PyProof.Rows.Reads.keeps k1 r⟩
    refine sortsAtE (s := { s with heap := h1 }) (ds := ps.map Prod.snd) (each_map (R := fun v d => ∃ as, Reads h1 v d as) Prod.snd er') hal hk (fun d hd' => ?_)
    obtain ⟨b, mb, rfl⟩ := List.mem_map.mp hd'
    have := hdp b mb
    show X.A.units + 1 + 1 + b.2.depth < cLine
    omega
  · have er' : EachIs (fun v (b : V × PyData) => ∃ as, Reads h1 v b.2 as) its ps := er.mono fun _ _ ⟨as, r⟩ => ⟨as, PyProof.Rows.Reads.keeps k1 r⟩
    have so := sortVals_data (h' := h1) (enc := Prod.snd) false e er' hal
    generalize sortVals (dataKind h1 (ps.map Prod.snd)) false its its = out at so at2
    have vo := pairs_each so
    have lz' : (((ps.mergeSort dataLeP).map Prod.fst)).length ≤ sizeLine := by
      rw [List.length_map, List.length_mergeSort]
      rw [List.length_map] at hz
      exact hz
    have I1 : Inv X pins σ H { s with heap := h0 } := I.kept (t' := s.toks) k0
    exact ⟨.ref _, upd H h0.objs.size (.lst ((ps.mergeSort dataLeP).map Prod.fst)), I1.laid (t' := s.toks) k2 (Nat.le_refl _) ⟨lz', out, ep, vo, at2⟩, rfl, q _ (I1.hok.fresh (Nat.le_refl _))⟩
/-- sorted of a tuple of data -/
def rSortDdT (K : PySem.W.Frag) : List V → Hp → VK → Prop := fun vs H Q => ∃ (a : Addr) (xs : List V) (ds : List PyData), vs = [V.ref a] ∧ SqT K H a xs ∧ DpAll K H xs ds ∧ AllAlike ds ∧ SortableE ds ∧ (∀ d ∈ ds, d.depth ≤ 8) ∧
  ∀ z us, H z = none → us.Perm xs → DpAll K H us (ds.mergeSort (dataLe false id)) → Q (.ref z) (upd H z (.lst us))
theorem cr_sortDdT {X : Cx} {k : Nat} (hr : Room k X.A) : CallR X (.builtin "sorted") (rSortDdT X.K) := by
  intro pins s σ H vs us Q I r h
  obtain ⟨a, xs, ds, rfl, hs, hd, hal, hk, hdp, q⟩ := h
  obtain ⟨z1, z2, z3⟩ := zip_of hd
  refine cr_sortDtT hr pins s σ H _ us Q I r ⟨a, xs.zip ds, rfl, by rw [z1]; exact hs, z3, by rw [z2]; exact hal, by rw [z2]; exact hk, fun q hq => hdp _ (by rw [← z2]; exact List.mem_map_of_mem hq), fun z nz => ?_⟩
  have pm := List.mergeSort_perm (xs.zip ds) dataLeP
  refine q z _ nz (by have := pm.map Prod.fst; rw [z1] at this; exact this) ?_
  have e : ((xs.zip ds).mergeSort dataLeP).map Prod.snd = ds.mergeSort (dataLe false id) := by
    rw [List.map_mergeSort (r := dataLeP) (s := dataLe false id) (f := Prod.snd) (l := xs.zip ds) (fun a _ b _ => rfl), z2]
  rw [← e]
  exact of_pairs fun q hq => z3 q (pm.mem_iff.mp hq)
/-- texts, sorted -/
def strLe : Str → Str → Bool := dataLe false PyData.str
/-- sorted of a tuple of texts -/
def rSortXs (K : PySem.W.Frag) : List V → Hp → VK → Prop := fun vs H Q => ∃ (a : Addr) (ns : List Str), vs = [V.ref a] ∧ SqT K H a (ns.map V.str) ∧ ∀ z, H z = none → Q (.ref z) (upd H z (.lst ((ns.mergeSort strLe).map V.str)))
theorem cr_sortXs {X : Cx} {k : Nat} (hr : Room k X.A) : CallR X (.builtin "sorted") (rSortXs X.K) := by
  intro pins s σ H vs us Q I r h
  obtain ⟨a, ns, rfl, hs, q⟩ := h
  refine cr_sortDdT hr pins s σ H _ us Q I r ⟨a, _, _, rfl, hs, dpAll_strs ns, fun d hd d' hd' => ?_, .inl (.inr fun d hd => ?_), fun d hd => ?_, fun z us' nz pm du => ?_⟩
  · obtain ⟨x, _, rfl⟩ := List.mem_map.mp hd
    obtain ⟨y, _, rfl⟩ := List.mem_map.mp hd'
    rfl
  · obtain ⟨x, _, rfl⟩ := List.mem_map.mp hd
    exact ⟨fun z => (nomatch z), fun xs z => (nomatch z)⟩
  · obtain ⟨x, _, rfl⟩ := List.mem_map.mp hd
    simp [PyData.depth]
  · rw [sort_map] at du
    rw [dpAll_str_inv du]
    exact q z nz
end OC

set_option Elab.async false
set_option linter.all false
set_option maxRecDepth 100000
set_option maxHeartbeats 4000000
/-! max(xs, key=lambda x: x[0]) over a list of new tuples whose first thing is a whole number -/
namespace OC
open PySem PySem.Spec PyProof.Rows L2 LamX
/-- the first greatest -/
theorem best_first (f : Nat → Int) : ∀ n, argBest (fun i j => decide (f i > f j)) n ≤ n ∧ (∀ j, j ≤ n → f j ≤ f (argBest (fun i j => decide (f i > f j)) n)) ∧ (∀ j, j < argBest (fun i j => decide (f i > f j)) n → f j < f (argBest (fun i j => decide (f i > f j)) n))
  | 0 => ⟨Nat.le_refl _, fun j h => by
      have : j = 0 := by omega
      subst this
      exact Int.le_refl _, fun j h => absurd h (Nat.not_lt_zero _)⟩
  | n + 1 => by
    obtain ⟨h1, h2, h3⟩ := best_first f n
    simp only [argBest]
    generalize argBest (fun i j => decide (f i > f j)) n = b at h1 h2 h3
    by_cases c : f (n + 1) > f b
    · simp only [decide_eq_true c, if_true]
      refine ⟨Nat.le_refl _, fun j hj => ?_, fun j hj => ?_⟩
      · by_cases e : j = n + 1
        · rw [e]; exact Int.le_refl _
        · have := h2 j (by omega); omega
      · have := h2 j (by omega); omega
    · simp only [decide_eq_false c, Bool.false_eq_true, if_false]
      refine ⟨by omega, fun j hj => ?_, h3⟩
      by_cases e : j = n + 1
      · rw [e]; omega
      · exact h2 j (by omega)
/-- all but the frames' slots is as it was -/
structure Still (fs : List Addr) (h h' : Heap) : Prop where
  keep : ∀ b o, h.get? b = some o → b ∉ fs → h'.get? b = some o
  slot : ∀ b o, h.get? b = some o → ∃ sl, h'.get? b = some { o with slots := sl }
theorem Still.refl (fs : List Addr) (h : Heap) : Still fs h h := ⟨fun _ _ e _ => e, fun _ o e => ⟨o.slots, e⟩⟩
theorem Still.trans {fs : List Addr} {h h1 h2 : Heap} (a : Still fs h h1) (b : Still fs h1 h2) : Still fs h h2 := ⟨fun x o e n => b.keep x o (a.keep x o e n) n, fun x o e => by
  obtain ⟨s1, e1⟩ := a.slot x o e
  obtain ⟨s2, e2⟩ := b.slot x _ e1
  exact ⟨s2, e2⟩⟩
theorem Still.of {fs : List Addr} {h h' : Heap} (k : ∀ b o, h.get? b = some o → h'.get? b = some o) : Still fs h h' := ⟨fun b o e _ => k b o e, fun b o e => ⟨o.slots, k b o e⟩⟩
section
variable {X : Cx} {pins : List (Addr × Obj)} {σ : L2.St} {H : Hp} {s : Shared}
theorem inv_still (I : Inv X pins σ H s) {s' : Shared} (q : Still (frs X.stack) s.heap s'.heap) (os : s'.os = s.os) (bare : AllBare s'.gens) : Inv X pins σ H s' := by
  obtain ⟨hh, g, d, t, os'⟩ := s'
  obtain rfl : os' = s.os := os
  have q : Still (frs X.stack) s.heap hh := q
  have nf : ∀ b, H b ≠ none → b ∉ frs X.stack := fun b nb m => nb (I.env0.frf b m)
  refine I.call (h' := hh) (g' := g) (d' := d) (t' := t) (ch := []) ⟨fun b o e n hf _ => q.keep b o e hf, fun b o e n hf _ => q.slot b o e, fun b o e n _ => n, fun b o e _ => ?_, fun b xs e => e, fun b o u e => e, fun b ps e => ⟨#[], by rw [Array.append_empty]; exact e⟩⟩ (fun b u e => ?_) bare (fun b z => absurd z (by simp))
  · obtain ⟨sl, e1⟩ := q.slot b o e
    exact ⟨_, e1⟩
  · refine (I.hok b u e).stay (fun d v hd x => q.keep d v x (nf d ?_)) (fun d z => z) (fun d xs z => z)
    rcases hd with z | z
    · rw [z, e]; simp
    · rw [z]; simp
/-- the lambda's call: what it is given is a tuple, what it tells is its first thing -/
theorem lam_first {k : Nat} {f c' a : Addr} {q : Str} {params : Arguments} {x : Str} {scope : Scope} {pm ctv : Value} {p1 p2 p3 : Pos} {kd : Nat} {i : Int} {xs : List V} (I : Inv X pins σ H s) (A : Around) (hA : A.frames = some X.stack) (hd : A.handled = none) (hr : Room (k + 1) A)
    (hf : s.heap.get? f = some (PySem.W.kla_obj "<lambda>" q params (.Subscript (.Name x p1) (.Constant (.int 0) kd p2) p3) scope [] pm c' ctv)) (hc : H c' = some (CodeO c' q)) (ha : H a = some (.tup (.int i :: xs)))
    (hb : ∀ v : Value, bindArgs (PySem.W.kla_fn "<lambda>" q params (.Subscript (.Name x p1) (.Constant (.int 0) kd p2) p3) scope [] pm (.ref c') ctv) ⟨[v], []⟩ = pure [(x, v)])
    (S : FnScope [x] [x] scope) (hv : Vis scope x) (hk1 : (x == ("__debug__" : Str)) = false) (hk2 : (x == ("__classdict__" : Str)) = false) {Q : Value → Shared → Prop} {E : Value → Shared → Prop}
    (hQ : ∀ t s', Still (frs X.stack) s.heap s'.heap → s'.os = s.os → AllBare s'.gens → Q (.int i t) s') : wpAny (model X.prog X.w) A (call (.ref f) [.ref a]) Q E s := by
  obtain ⟨⟨oc, ws, tq, hoc, hdc, hvc⟩, _, _⟩ := I.hok c' _ hc
  obtain ⟨lz, its, rv, oa, hoa, hca, na, hda⟩ : ObjOk X.prog X.w H s.heap a (.tup (.int i :: xs)) := I.hok a _ ha
  let H0 : Hp := upd (fun _ => none) a (.frz oa (.tup (.int i :: xs)))
  have h0a : H0 a = some (.frz oa (.tup (.int i :: xs))) := upd_same
  have h0n : ∀ b, b ≠ a → H0 b = none := fun b n => upd_ne n
  have e1 := I.env0
  have hk0 : HOk X.prog X.w H0 s.heap := fun b u e => by
    by_cases hb2 : b = a
    · subst hb2
      rw [h0a] at e
      cases e
      exact ⟨hoa, lz, its, rv, oa, hoa, hca, na, hda⟩
    · rw [h0n b hb2] at e
      cases e
  have e0 : Env0 X.prog X.w X.K X.mg X.base A X.stack s H0 := ⟨hA, e1.mod, fun b o e => ⟨(e1.bs b o e).1, h0n b (fun z => by
      have := (e1.bs b o e).2
      rw [z, ha] at this
      cases this)⟩, e1.bsz, e1.funs, fun b hb => h0n b (fun z => by
      have := e1.frf b hb
      rw [z, ha] at this
      cases this), hk0, e1.bare⟩
  have rc : codeAny (model X.prog X.w) A (.call (.ref f) ⟨[.ref a], []⟩) (CR CX0 X.stack X.prog X.w H0 s (fun v H' => v = .int i ∧ H' = H0) E0) s := by
    refine PySem.W.kla_callFunE hr.depth hf rfl S.co S.gen rfl ⟨c', oc, ws, tq, rfl, hoc, hdc, hvc⟩ ?_
    rw [hb]
    refine wpAny_pure ?_
    have kinds : ∀ y ∈ [(x, Value.ref a)], scope.names.lookup y.1 = some .local ∨ (scope.names.lookup y.1 = some .cell ∧ ((cellsFrom (s.heap.objs.size + 1) scope.names []).lookup y.1).isSome = true) := fun y hy => by
      rw [List.mem_singleton.mp hy]
      exact (S.par x (List.mem_singleton.mpr rfl)).imp id fun q => ⟨q, PySem.W.cellsFrom_some _ _ _ (.inl q)⟩
    refine wpAny_newFunctionEnv_cells S.kind kinds fun env he s1 ic => ?_
    cases he
    refine ⟨I.nolimit.keeps ic.toInCall.keep, ?_⟩
    have J : Inv (cxOf CX0 X.prog X.w X.K X.mg X.base [x] q scope f (.ref c') A X.stack s H0 E0) [] (start [x] [.ref a]) H0 s1 := inv_start (ps := [x]) S hd e0 rfl (.cons rfl .nil) ic
    have bd : PE (cxOf CX0 X.prog X.w X.K X.mg X.base [x] q scope f (.ref c') A X.stack s H0 E0) (.Subscript (.Name x p1) (.Constant (.int 0) kd p2) p3) _ := pe_ix ix_tup (pe_var (i := 0) rfl hv hk1 hk2) pe_int (fun _ _ => rfl)
    have ran := bd.run [] s1 (start [x] [.ref a]) H0 (fun v H' => v = .int i ∧ H' = H0) J ⟨.ref a, rfl, a, _, 0, .int i, rfl, rfl, .inl (.inr ⟨_, h0a⟩), at_of (j := 0) rfl rfl, rfl, rfl⟩
    refine PySem.W.kla_codeExpr (wpAny_mono ran (fun v s' hq => ?_) fun e s' hq => hq)
    obtain ⟨w', H', J', rv', q⟩ := hq
    exact ⟨w', H', J'.os, J'.bare, J'.base, J'.hok, rv', q⟩
  refine wpAny_call (codeAny_mono rc fun r s' hq => ?_)
  cases r with
  | error e => exact (show False from hq).elim
  | ok fl =>
    cases fl with
    | next => exact False.elim hq
    | brk => exact False.elim hq
    | cont => exact False.elim hq
    | ret u =>
      obtain ⟨v, H', os, bare, un, hok, rv', q1, q2⟩ := hq
      subst q1 q2
      obtain ⟨t, rfl⟩ : ∃ t, u = Value.int i t := rv'
      have ea : s'.heap.get? a = some oa := (hok a _ h0a).1
      refine hQ t s' ⟨fun b o e n => ?_, fun b o e => ?_⟩ os bare
      · by_cases hb2 : b = a
        · subst hb2
          rw [hoa] at e
          cases e
          exact ea
        · exact un.keep b o e (h0n b hb2) n (by simp)
      · by_cases hb2 : b = a
        · subst hb2
          rw [hoa] at e
          cases e
          exact ⟨oa.slots, ea⟩
        · exact un.any e (h0n b hb2) (by simp)
/-! ### the call -/
def tMaxKey (K : PySem.W.Frag) (T : List (Addr × Str)) (te : TE) : TE := fun σ H Q => te σ H fun v H1 => ∃ (l : Addr) (as : List Addr) (ks : List Int), v = .ref l ∧ H1 l = some (.lst (as.map V.ref)) ∧ as.length = ks.length ∧ 0 < ks.length ∧
  (∀ j, j < ks.length → ∃ a xs, as[j]? = some a ∧ H1 a = some (.tup (.int (ks.getD j 0) :: xs))) ∧ Tabs T H1 ∧
  ∀ H2 m a, ExtN H1 H2 → Tabs T H2 → m < ks.length → as[m]? = some a → (∀ j, j < ks.length → ks.getD j 0 ≤ ks.getD m 0) → (∀ j, j < m → ks.getD j 0 < ks.getD m 0) → Q (.ref a) H2
theorem nofr {b : Addr} (I : Inv X pins σ H s) (hf : s.heap.objs.size ≤ b) : b ∉ frs X.stack := fun z => by
  rcases List.mem_cons.mp (I.stkSub _ z) with e | e
  · have h1 := I.lt
    rw [← e] at h1
    exact Nat.lt_irrefl _ (Nat.lt_of_lt_of_le h1 hf)
  · exact I.nofs hf e
theorem vals_refs {its : List Value} {as : List Addr} (r : Vals (as.map V.ref) its) : its = as.map Value.ref := by
  induction as generalizing its with
  | nil => cases r; rfl
  | cons a t ih =>
    cases r with
    | cons r1 r2 => rw [List.map_cons, ← ih r2, show _ = Value.ref a from r1]
theorem pe_maxKey {T : List (Addr × Str)} {c P : Addr} {k : Nat} {e : Expr} {te : TE} {x : Str} {params : Arguments} {scope : Scope} {p p1 p2 p3 lpos kpos pos : Pos} {kd : Nat} (hr : Room (k + 2) X.A) (hg : Gl X "max") (hm : X.mg "max" = none) (TB : TabB X.base X.mg c P) (hcode : X.env.code = .ref c) (hmT : (P, X.env.qual ++ "<lambda>") ∈ T) (hu : ∀ q ∈ T, q.1 = P → q.2 = X.env.qual ++ "<lambda>")
    (hdef : defaultsOf params X.env = ([], [])) (hcl : ∀ cells, cloFrom cells scope.names [] = []) (S : FnScope [x] [x] scope) (hv : Vis scope x)
    (hb : ∀ (q : Str) (pm c' ctv : Value) (v : Value), bindArgs (PySem.W.kla_fn "<lambda>" q params (.Subscript (.Name x p1) (.Constant (.int 0) kd p2) p3) scope [] pm c' ctv) ⟨[v], []⟩ = pure [(x, v)])
    (ha : PA X [e] (tCons te tNil)) (hk1 : (x == ("__debug__" : Str)) = false := by decide) (hk2 : (x == ("__classdict__" : Str)) = false := by decide)
    (he : backTo pos (starEach [e] X.env) = (false, eval e X.env) :: backTo pos (starEach [] X.env) := by rfl) (hpl : (backTo pos (starEach [e] X.env)).any (·.1) = false := by rfl) :
    PE X (.Call (.Name "max" p) [e] [⟨some "key", .Lambda params (.Subscript (.Name x p1) (.Constant (.int 0) kd p2) p3) scope lpos, kpos⟩] pos) (tMaxKey X.K T te) := by
  refine ⟨fun pins s σ H Q I h => ?_⟩
  refine wpAny_Call_Name_kw (ld_blt I hg hm rfl ?_ (by decide) (by decide))
  let R : V → Hp → Prop := fun v H1 => ∃ (l : Addr) (as : List Addr) (ks : List Int), v = .ref l ∧ H1 l = some (.lst (as.map V.ref)) ∧ as.length = ks.length ∧ 0 < ks.length ∧
    (∀ j, j < ks.length → ∃ a xs, as[j]? = some a ∧ H1 a = some (.tup (.int (ks.getD j 0) :: xs))) ∧ Tabs T H1 ∧
    ∀ H2 m a, ExtN H1 H2 → Tabs T H2 → m < ks.length → as[m]? = some a → (∀ j, j < ks.length → ks.getD j 0 ≤ ks.getD m 0) → (∀ j, j < m → ks.getD j 0 < ks.getD m 0) → Q (.ref a) H2
  refine PyProof.Rows.callWith_kw (thn (ha.run pos pins s σ H (fun vs H1 => match vs with | [v] => R v H1 | _ => False) I h) fun us s1 ⟨vs, H1, I1, r1, q1⟩ => ?_) he hpl rfl rfl
  obtain ⟨v, rfl⟩ : ∃ v, vs = [v] := by
    match vs, q1 with
    | [v], _ => exact ⟨v, rfl⟩
  obtain ⟨l, as, ks, rfl, hL, hlen, hpos, hks, hT, q⟩ : R v H1 := q1
  rw [Vals.ref1 r1]
  show wpAny _ _ (evalAll [do let v ← eval (.Lambda params (.Subscript (.Name x p1) (.Constant (.int 0) kd p2) p3) scope lpos) X.env; standAt pos; pure v]) _ _ s1
  refine wpAny_evalAll_cons (wpAny_bind (lam_make2 I1 TB hcode hmT hu hT hdef (fun y hy e => absurd e (S.nofree y hy)) fun f c' pm ctv H2 s2 I2 eN T2 hf hfn hfr hco => wpAny_bind (wpAny_standAt (wpAny_pure ?_))))
  refine wpAny_evalAll_nil ?_
  rw [hcl] at hf
  have hL2 : H2 l = some (.lst (as.map V.ref)) := eN _ _ hL (fun ps z => by cases z)
  obtain ⟨its, rv, ⟨oL, nL, hoL, hcL, hdL, hsL⟩, _⟩ := I2.list (.inl (.inl hL2))
  have eits := vals_refs rv
  subst eits
  have hls : s2.heap.IsList l (as.map Value.ref).toArray := ⟨oL, hoL, hcL, nL, hsL⟩
  show wpAny (model X.prog X.w) X.A (call (.builtin "max") [.ref l] [(Str.ofString "key", .ref f)]) _ _ s2
  refine call_max_walkK (wpAny_pyIter_list hls ?_)
  have hh : X.A.handled = none := hr.hd
  have ltL : l < s2.heap.objs.size := Heap.lt_size hoL
  have nf : ∀ b u, H2 b = some u → b ∉ frs X.stack := fun b u e z => by
    rw [I2.env0.frf b z] at e
    cases e
  have sz : (as.map Value.ref).toArray.size = as.length := by simp
  have W := Walks.list (prog := X.prog) (w := X.w) (A := X.A.in1) hh s2.heap.objs.size l (Nat.ne_of_lt ltL) (as.map Value.ref).toArray
  refine ⟨_, [_, l], [_], _, _, _, _, (fun s' => Still (frs X.stack) s2.heap s'.heap ∧ s'.os = s2.os ∧ AllBare s'.gens), (fun i k _ => ∃ t, k = .int (ks.getD i 0) t), (fun i j => decide (ks.getD i 0 > ks.getD j 0)), rfl, W.toS, ⟨⟨_, Heap.get?_push_size _ rfl, rfl, rfl⟩, hls.push _⟩, fun b hb => ?_, by rw [sz, hlen]; exact hpos, ?_, ?_, fun v s' hv' hJ => ?_⟩
  · show b < (s2.heap.push _).objs.size
    rw [Heap.size_push]
    rcases List.mem_cons.mp hb with rfl | hb
    · exact Nat.lt_succ_self _
    · rcases List.mem_cons.mp hb with rfl | hb
      · exact Nat.lt_succ_of_lt ltL
      · cases hb
  · have fI : s2.heap.objs.size ∉ frs X.stack := nofr I2 (Nat.le_refl _)
    have fS : (s2.heap.push { cls := .type "list_iterator", data := .fields #[.ref l, .int 0 0] }).objs.size ∉ frs X.stack := nofr I2 (by rw [Heap.size_push]; exact Nat.le_succ _)
    refine ⟨fun s0 s' hJ hm => ?_, fun i k _ _ hv' _ => hv', fun i v s0 o Q' E' hi hP hJ hSt hS hQ => ?_, fun i j ki kj s0 Q' E' hJ h1 h2 hq => ?_⟩
    · obtain ⟨st, os, bare⟩ := hJ
      have off : ∀ b o, s2.heap.get? b = some o → b ∉ (s2.heap.push { cls := .type "list_iterator", data := .fields #[.ref l, .int 0 0] }).objs.size :: [s2.heap.objs.size] := fun b o e z => by
        have lt := Heap.lt_size e
        rcases List.mem_cons.mp z with z | z
        · rw [z, Heap.size_push] at lt
          exact absurd lt (Nat.not_lt.mpr (Nat.le_succ _))
        · rw [List.mem_singleton.mp z] at lt
          exact Nat.lt_irrefl _ lt
      refine ⟨⟨fun b o e n => hm.heap b o (off b o e) (st.keep b o e n), fun b o e => ?_⟩, hm.os.trans os, ?_⟩
      · obtain ⟨sl, e1⟩ := st.slot b o e
        exact ⟨sl, hm.heap b _ (off b o e) e1⟩
      · rw [show s'.gens = s0.gens from hm.gens]
        exact bare
    · obtain ⟨st, os, bare⟩ := hJ
      have I3 : Inv X pins σ H2 s0 := inv_still I2 st os bare
      rw [sz, hlen] at hi
      obtain ⟨a, xs, ga, ha'⟩ := hks i hi
      have ev : v = .ref a := by
        have hP' : (as.map Value.ref).toArray[i]? = some v := hP
        rw [List.getElem?_toArray, List.getElem?_map, ga] at hP'
        exact (Option.some.inj hP').symm
      subst ev
      obtain ⟨hit, hlt⟩ := hSt
      have k3 : ∀ b o, b ∉ frs X.stack → s2.heap.get? b = some o → s0.heap.get? b = some o := fun b o n e => st.keep b o e n
      refine lam_first (k := k) I3 X.A.in1 I3.env0.in1.frames hr.hd hr.in1 (k3 f _ hfr hf) hco (eN _ _ ha' (fun ps z => by cases z)) (hb _ _ _ _) S hv hk1 hk2 (fun t s' st' os' bare' => ?_)
      refine hQ _ s' ⟨st.trans st', os'.trans os, bare'⟩ ⟨hit.at fun o e => st'.keep _ _ e fI, hlt.at fun o e => st'.keep _ _ e (nf _ _ hL2)⟩ (st'.keep _ _ hS fS) ⟨t, rfl⟩ (fun j k' h => h)
    · exact CmpOf.ints_gt (prog := X.prog) (w := X.w) (A := X.A.in1) (P := fun i v => ∃ t, v = .int (ks.getD i 0) t) (fun i => ks.getD i 0) (fun i v h => h) i j _ _ _ _ _ h1 h2 hq
  · exact ⟨Still.of fun b o e => Heap.get?_push_of_some _ e, rfl, I2.bare⟩
  · obtain ⟨st, os, bare⟩ := hJ
    obtain ⟨b1, b2, b3⟩ := best_first (fun i => ks.getD i 0) ((as.map Value.ref).toArray.size - 1)
    have hv2 : (as.map Value.ref).toArray[argBest (fun i j => decide (ks.getD i 0 > ks.getD j 0)) ((as.map Value.ref).toArray.size - 1)]? = some v := hv'
    rw [sz, hlen] at b1 b2 b3
    rw [sz, hlen] at hv2
    generalize argBest (fun i j => decide (ks.getD i 0 > ks.getD j 0)) (ks.length - 1) = m at b1 b2 b3 hv2
    obtain ⟨a, xs, ga, ha'⟩ := hks m (by omega)
    rw [List.getElem?_toArray, List.getElem?_map, ga] at hv2
    cases hv2
    exact ⟨.ref a, H2, inv_still I2 st os bare, rfl, q H2 m a eN T2 (by omega) ga (fun j hj => b2 j (by omega)) b3⟩
end
end OC

set_option Elab.async false
set_option linter.all false
set_option maxRecDepth 100000
set_option maxHeartbeats 2000000
/-! tables of code objects: what stays where a lambda is made; the end with one table and the modules' dict -/
namespace OC
open PySem PySem.Spec PyProof.Rows L2 LamX
/-! ### what stays -/
theorem ExtN.same {H H' : Hp} (e : Same H H') : ExtN H H' := fun b o h _ => e b o h
theorem ExtN.tk {H H' : Hp} (e : ExtN H H') : Tk H H' := fun K a xs h => by
  rcases h with (h | ⟨o, h⟩) | h
  · exact .inl (.inl (e _ _ h fun ps z => by cases z))
  · exact .inl (.inr ⟨o, e _ _ h fun ps z => by cases z⟩)
  · exact .inr h
theorem ExtN.lst {H H' : Hp} (e : ExtN H H') {a : Addr} {xs : List V} (h : H a = some (.lst xs)) : H' a = some (.lst xs) := e _ _ h fun ps z => by cases z
theorem ExtN.tup {H H' : Hp} (e : ExtN H H') {a : Addr} {xs : List V} (h : H a = some (.tup xs)) : H' a = some (.tup xs) := e _ _ h fun ps z => by cases z
/-- all but the deck's two lists and the tables stays -/
def KeptN (d c : Addr) (H H' : Hp) : Prop := ∀ b o, H b = some o → b ≠ d → b ≠ c → (∀ ps, o ≠ .tbl ps) → H' b = some o
theorem KeptN.refl (d c : Addr) (H : Hp) : KeptN d c H H := fun _ _ h _ _ _ => h
theorem KeptN.trans {d c : Addr} {H H1 H2 : Hp} (a : KeptN d c H H1) (b : KeptN d c H1 H2) : KeptN d c H H2 := fun x o h n m t => b x o (a x o h n m t) n m t
theorem KeptN.of {d c : Addr} {H H' : Hp} (a : Kept d c H H') : KeptN d c H H' := fun x o h n m _ => a x o h n m
theorem KeptN.ext {d c : Addr} {H H' : Hp} (a : ExtN H H') : KeptN d c H H' := fun x o h _ _ t => a x o h t
section
variable {T : List (Addr × Str)} {H H' : Hp}
theorem Tabs.same (t : Tabs T H) (e : Same H H') : Tabs T H' := t.ext e
/-- tables stay where all but two lists stays -/
theorem Tabs.kept {d c : Addr} {xs ys : List V} (t : Tabs T H) (hd : H d = some (.lst xs)) (hc : H c = some (.lst ys)) (k : Kept d c H H') : Tabs T H' := fun p hp => by
  obtain ⟨ps, h1, h2, h3⟩ := t p hp
  have nd : ∀ {b : Addr} {o : HO}, H b = some o → (∀ zs, o ≠ .lst zs) → b ≠ d ∧ b ≠ c := fun {b o} e n => ⟨fun z => by
    rw [z, hd] at e
    exact n _ (Option.some.inj e).symm, fun z => by
    rw [z, hc] at e
    exact n _ (Option.some.inj e).symm⟩
  obtain ⟨n1, n2⟩ := nd h1 (fun zs z => by cases z)
  refine ⟨ps, k _ _ h1 n1 n2, h2, fun pos cv hcv => ?_⟩
  obtain ⟨co, e1, e2⟩ := h3 pos cv hcv
  obtain ⟨m1, m2⟩ := nd e2 (fun zs z => by
    unfold CodeO at z
    cases z)
  exact ⟨co, e1, k _ _ e2 m1 m2⟩
/-- one table -/
abbrev T1 (P : Addr) (q : Str) : List (Addr × Str) := [(P, q)]
theorem tabs_nil {P : Addr} {q : Str} (h : H P = some (.tbl #[])) : Tabs (T1 P q) H := fun p hp => by
  rw [List.mem_singleton.mp hp]
  exact .nil h
end
/-! ### the end -/
section
variable {P : Program} {w : World} {K : PySem.W.Frag} {mg mb : Str → Option Value} {CX : CXT} {k : Nat} {fa a cT PT : Addr} {fd : FuncData} {x : Str} {sp : Sp} {s₁ : Shared} {vs : List Value} {ns : List Int}
theorem law_callT (inK : K.In s₁.heap) (gNs : s₁.heap.Ns mainGlobals mg) (bNs : s₁.heap.Ns builtinsNs mb) (bAt : ∀ x : Str, x ≠ "__name__" → mb x = bootBuiltins x) (sys : ∃ mm, s₁.heap.Ns sysModules mm) (lim : s₁.heap.NoLimit) (g0 : s₁.gens = #[])
    (tab : s₁.heap.get? PT = some (PySem.W.tabObj #[])) (tabK : K.lookup PT = none) (code : PySem.W.CodeHd s₁.heap cT PT) (main : ∃ (bm : Addr) (ob : Obj), mg "__builtins__" = some (.ref bm) ∧ bm ≠ builtinsNs ∧ s₁.heap.get? bm = some ob ∧ ob.cls = .type "module" ∧ ob.dict = some builtinsNs ∧ ob.data = .plain)
    (scr : s₁.heap.get? a = some { cls := .type "list", data := .seq vs.toArray }) (hi : IntsAre vs ns) (hl : ns.length ≤ sizeLine) (hr : Room k callerA)
    (F : ∀ base : Heap, K.In base → base.Ns mainGlobals mg → HasSys base → TabB base mg cT PT → FnG P w K mg base CX k fa fd [x] sp) (hbind : ∀ (s : Shared) (u : Value), BindsTo s fd ⟨[u], []⟩ [(x, u)])
    (hsp : ∀ H : Hp, H PT = some (.tbl #[]) → SqL K H a (ns.map V.int) → sp [.ref a] H (fun v _ => v = .bl true) fun _ _ _ => False) (hCX : ∀ H e s', CX [] H s₁ (fun _ _ _ => False) e s' → False) :
    codeAny (model P w) callerA (.call (.ref fa) ⟨[.ref a], []⟩) (fun r s' => r = .ok (.ret (.bool true)) ∧ OldK s₁.heap s'.heap ∧ s'.os = s₁.os ∧ AllBare s'.gens) s₁ := by
  obtain ⟨mm, sNs⟩ := sys
  have aPT : PT ≠ a := fun z => by
    rw [z, scr] at tab
    have z' : Data.seq vs.toArray _ = Data.fields #[] := congrArg Obj.data (Option.some.inj tab)
    cases z'
  have core : ∀ H : Hp, H PT = some (.tbl #[]) → (∀ b, b ≠ PT → H b = none ∨ ∃ o xs, H b = some (.frz o (.lst xs))) → SqL K H a (ns.map V.int) → HOk P w H s₁.heap → (∀ b, b ≠ PT → H b ≠ none → b = a) → (H a ≠ none → K.lookup a = none) →
      codeAny (model P w) callerA (.call (.ref fa) ⟨[.ref a], []⟩) (fun r s' => r = .ok (.ret (.bool true)) ∧ OldK s₁.heap s'.heap ∧ s'.os = s₁.os ∧ AllBare s'.gens) s₁ := by
    intro H hP hO hS hok only hK
    -- what is no list and no empty table is not tracked
    have off : ∀ {b : Addr} {o : Obj}, s₁.heap.get? b = some o → (∀ its n, o.data ≠ .seq its n) → (o.data = .fields #[] → o.cls ≠ .none) → H b = none := fun {b o} e n1 n2 => by
      apply Classical.byContradiction
      intro nb
      by_cases hb : b = PT
      · subst hb
        rw [tab] at e
        cases e
        exact n2 rfl rfl
      · have eb := only b hb nb
        subst eb
        rw [scr] at e
        cases e
        exact n1 _ _ rfl
    have offD : ∀ {b : Addr} {o : Obj} {es : Array DictEntry} {ep : Nat}, s₁.heap.get? b = some o → o.data = .dict es ep → H b = none := fun e d => off e (fun its n z => by rw [d] at z; cases z) (fun z => by rw [d] at z; cases z)
    have nsB : ∀ {b : Addr} {m : Str → Option Value}, s₁.heap.Ns b m → (hidT s₁.heap H).Ns b m := fun {b m} ⟨o, es, ep, e, d, r⟩ => ⟨o, es, ep, hidT_get e (offD e d), d, r⟩
    have inB : K.In (hidT s₁.heap H) := fun b o e => by
      refine hidT_get (inK b o e) ?_
      apply Classical.byContradiction
      intro nb
      by_cases hb : b = PT
      · rw [hb, tabK] at e
        cases e
      · have eb := only b hb nb
        subst eb
        rw [hK nb] at e
        cases e
    obtain ⟨mc, l1, l2⟩ := lim
    have M : Mod K mg (hidT s₁.heap H) := ⟨inB, nsB gNs, ⟨mb, nsB bNs, bAt⟩, ⟨mc, nsB l1, l2⟩⟩
    have hs : HasSys (hidT s₁.heap H) := by
      obtain ⟨o, es, ep, e, _⟩ := nsB sNs
      exact ⟨o, e⟩
    have TB : TabB (hidT s₁.heap H) mg cT PT := by
      refine ⟨?_, ?_, fun z => ?_⟩
      · obtain ⟨o, us, file, tf, flags, tg, inF, text, tt, c1, c2, c3, c4, r⟩ := code
        refine ⟨o, us, file, tf, flags, tg, inF, text, tt, hidT_get c1 (off c1 (fun its n z => by rw [c3] at z; cases z) (fun _ z => by rw [c2] at z; cases z)), c2, c3, c4, r⟩
      · obtain ⟨bm, ob, b1, b2, b3, b4, b5, b6⟩ := main
        refine ⟨bm, ob, b1, b2, fun z => ?_, fun z => ?_, hidT_get b3 (off b3 (fun its n z => by rw [b6] at z; cases z) (fun z => by rw [b6] at z; cases z)), b4, b5, b6⟩
        · obtain ⟨o, es, ep, e, d, _⟩ := gNs
          rw [z, e] at b3
          cases b3
          rw [d] at b6
          cases b6
        · rw [z, tab] at b3
          cases b3
          cases b6
      · obtain ⟨o, es, ep, e, d, _⟩ := gNs
        rw [z, tab] at e
        cases e
        cases d
    have e0 : Env0 P w K mg (hidT s₁.heap H) callerA [] s₁ H :=
      ⟨rfl, M, fun b o e => of_hidT e, Nat.le_of_eq (hidT_size _ _), trivial, fun b hb => (nomatch (show b ∈ ([] : List Addr) from hb)), hok, .of_eq g0⟩
    have run := (F _ inB (nsB gNs) hs TB).go callerA [] s₁ H ⟨[.ref a], []⟩ [.ref a] [.ref a] _ _ hr rfl e0 (hbind s₁ (.ref a)) (.cons rfl .nil) (hsp H hP hS)
    apply codeAny_mono run
    intro r s' h
    rcases r with e | fl
    · exact (hCX H e s' h).elim
    · rcases fl with _ | _ | _ | u
      all_goals first
        | exact (show False from h).elim
        | skip
      obtain ⟨v, H', os, bare, un, hok', r', q⟩ := h
      cases (show v = .bl true from q)
      cases (show u = Value.bool true from r')
      obtain ⟨more, mH⟩ := un.tbls PT #[] hP
      have mP : s'.heap.get? PT = some { cls := .none, data := .fields (#[] ++ more) } := hok' PT _ mH
      have stay : ∀ b o, b ≠ PT → s₁.heap.get? b = some o → s'.heap.get? b = some o := fun b o n e => by
        rcases hO b n with z | ⟨ob, xs, z⟩
        · exact un.keep b o e z (fun y => (nomatch (show b ∈ ([] : List Addr) from y))) (fun y => (nomatch y))
        · have e1 := (hok b _ z).1
          have e2 := (hok' b _ (un.frzs b ob _ z)).1
          rw [e] at e1
          rw [Option.some.inj e1]
          exact e2
      refine ⟨rfl, ⟨fun b o e => ?_, fun b o e => ?_⟩, os, bare⟩
      · by_cases hb : b = PT
        · subst hb
          have e2 := e
          rw [tab] at e2
          cases e2
          exact .inr (.inl ⟨(code.tab tab).isCodeTable, rfl, #[], more, rfl, mP⟩)
        · exact .inl (stay b o hb e)
      · by_cases hb : b = PT
        · rw [hb]
          exact ⟨_, mP⟩
        · exact ⟨o, stay b o hb e⟩
  have rv := vals_ints hi
  have lv := hi.length
  let H1 : Hp := upd (fun _ => none) PT (.tbl #[])
  have h1P : H1 PT = some (.tbl #[]) := upd_same
  have h1n : ∀ b, b ≠ PT → H1 b = none := fun b n => upd_ne n
  cases hk : K.lookup a with
  | some o =>
    have e := inK a o hk
    rw [scr] at e
    have eo := (Option.some.inj e).symm
    subst eo
    refine core H1 h1P (fun b n => .inl (h1n b n)) (.inr ⟨_, vs.toArray, _, hk, rfl, rfl, rfl, by rw [List.size_toArray, lv]; exact hl, by simpa using rv⟩) (fun b u z => ?_) (fun b n z => (z (h1n b n)).elim) (fun z => (z (h1n a aPT.symm)).elim)
    by_cases hb : b = PT
    · subst hb
      rw [h1P] at z
      cases z
      exact tab
    · rw [h1n b hb] at z
      cases z
  | none =>
    let H2 : Hp := upd H1 a (.frz { cls := .type "list", data := .seq vs.toArray } (.lst (ns.map V.int)))
    have h2a : H2 a = some (.frz { cls := .type "list", data := .seq vs.toArray } (.lst (ns.map V.int))) := upd_same
    have h2P : H2 PT = some (.tbl #[]) := by rw [show H2 PT = H1 PT from upd_ne aPT]; exact h1P
    have h2n : ∀ b, b ≠ PT → b ≠ a → H2 b = none := fun b n m => by rw [show H2 b = H1 b from upd_ne m]; exact h1n b n
    refine core H2 h2P (fun b n => ?_) (.inl (.inr ⟨_, h2a⟩)) (fun b u z => ?_) (fun b n z => ?_) (fun _ => hk)
    · by_cases hb : b = a
      · subst hb
        exact .inr ⟨_, _, h2a⟩
      · exact .inl (h2n b n hb)
    · by_cases hb : b = PT
      · subst hb
        rw [h2P] at z
        cases z
        exact tab
      · by_cases hb2 : b = a
        · subst hb2
          rw [h2a] at z
          cases z
          exact ⟨scr, by rw [List.length_map]; exact hl, vs, _, rv, scr⟩
        · rw [h2n b hb hb2] at z
          cases z
    · apply Classical.byContradiction
      intro hb
      exact z (h2n b n hb)
end
theorem walk_ofT {l : PySem.W.OpenLaw} {n k : Nat} {q : Program} {loose : List Str} {XP : (Str → Option Value) → Heap → Prop} {YP : World → Heap → Prop} {d dT : DefRec} {K : Params → PySem.W.Frag} {CX : World → CXT} {sp : World → Addr → Sp} {x nT : Str}
    (hn : l.most = some n) (hn2 : n ≤ sizeLine) (hdf : d.params.defaults = []) (hr : Room k callerA) (him : importsNone q = true) (hrec : (recsOf q).find? (fun e => e.name == nT) = some dT) (hY : ∀ (w : World) (h : Heap), YP w h → (K w.params).In h)
    (F : ∀ (w : World) (mg : Str → Option Value) (fa : Addr) (h : Heap), (K w.params).In h → h.Ns mainGlobals mg → mg d.name = some (.ref fa) → ∃ (fd : FuncData) (cT PT : Addr), PySem.W.tabIn (K w.params) nT = some (cT, PT) ∧ (K w.params).lookup PT = none ∧ (∀ (s : Shared) (u : Value), BindsTo s fd ⟨[u], []⟩ [(x, u)]) ∧
      ∀ base : Heap, (K w.params).In base → base.Ns mainGlobals mg → HasSys base → TabB base mg cT PT → FnG l.prog w (K w.params) mg base (CX w) k fa fd [x] (sp w PT))
    (hsp : ∀ (w : World) (H : Hp) (PT a : Addr) (ns : List Int), ns.length ≤ n → H PT = some (.tbl #[]) → SqL (K w.params) H a (ns.map V.int) → sp w PT [.ref a] H (fun v _ => v = .bl true) fun _ _ _ => False) (hCX : ∀ (w : World) (H : Hp) (s : Shared) (e : Value) (s' : Shared), CX w [] H s (fun _ _ _ => False) e s' → False) :
    PySem.W.WalkO q loose XP YP l.row.toRowW d [] (fun f vs => PySem.call f vs) := by
  apply Att.attach_call hn hdf
  intro w s₀ s₁ mg mb fa o pm cd doc a vs ns G Y ho hd hcd hmg hobj hints hlen hg
  have inK := hY w _ Y
  obtain ⟨fd, cT, PT, ht, tk, hb, hF⟩ := F w mg fa _ inK G.T.g hmg
  obtain ⟨code, tab⟩ := PySem.W.tab_of G.T inK hrec ht
  have sy : ∃ mm, s₁.heap.Ns sysModules mm := by
    obtain ⟨mm, h1, _⟩ := (G.T.seer him).mods
    exact ⟨mm, h1⟩
  exact law_callT inK G.T.g G.T.b G.T.builtins sy G.T.nolimit hg tab tk code G.T.bmain hobj hints (Nat.le_trans hlen hn2) hr hF hb (fun H hP hS => hsp w H PT a ns hlen hP hS) fun H e s' => hCX w H s₁ e s'
end OC

set_option Elab.async false
set_option linter.all false
set_option maxRecDepth 100000
set_option maxHeartbeats 4000000
/-! rooms of parts: a dict whose keys are tuples of names -/
namespace OC
open PySem PySem.Spec PyProof.Rows L2
def pk (q : List Str) : List L2.Key := q.map Sum.inr
theorem pk_v (q : List Str) : (pk q).map kV = q.map V.str := by
  unfold pk
  rw [List.map_map]
  rfl
theorem pk_inj {q r : List Str} (h : pk q = pk r) : q = r := by
  unfold pk at h
  induction q generalizing r with
  | nil => cases r with
    | nil => rfl
    | cons _ _ => cases h
  | cons x q ih => cases r with
    | nil => cases h
    | cons y r =>
      obtain ⟨h1, h2⟩ := List.cons.inj h
      rw [Sum.inr.inj h1, ih h2]
/-! ### all choices of some names -/
theorem sets_snoc (ns : List Str) (x : Str) : setsR (ns ++ [x]) = setsR ns ++ (setsR ns).map (· ++ [x]) := by
  unfold setsR
  rw [List.foldl_append]
  rfl
theorem sets_inF : ∀ (ns : List Str) (acc : List (List Str)) (A : List Str), (∀ q ∈ acc, ∀ x ∈ q, x ∈ A) → ∀ q ∈ ns.foldl (fun acc x => acc ++ acc.map (· ++ [x])) acc, ∀ x ∈ q, x ∈ A ++ ns
  | [], acc, A, h, q, hq, x, hx => List.mem_append_left _ (h q hq x hx)
  | y :: ns, acc, A, h, q, hq, x, hx => by
    have := sets_inF ns (acc ++ acc.map (· ++ [y])) (A ++ [y]) (fun r hr z hz => by
      rcases List.mem_append.mp hr with hr | hr
      · exact List.mem_append_left _ (h r hr z hz)
      · obtain ⟨r', mr, rfl⟩ := List.mem_map.mp hr
        rcases List.mem_append.mp hz with hz | hz
        · exact List.mem_append_left _ (h r' mr z hz)
        · exact List.mem_append_right _ hz) q hq x hx
    rwa [List.append_assoc] at this
theorem sets_in {ns q : List Str} (h : q ∈ setsR ns) : ∀ x ∈ q, x ∈ ns := fun x hx => by
  have := sets_inF ns [[]] [] (fun r hr z hz => by
    rw [List.mem_singleton.mp hr] at hz
    cases hz) q h x hx
  rwa [List.nil_append] at this
theorem sets_nodupF : ∀ (ns : List Str) (acc : List (List Str)), ns.Nodup → acc.Nodup → (∀ q ∈ acc, ∀ x ∈ q, x ∉ ns) → (ns.foldl (fun acc x => acc ++ acc.map (· ++ [x])) acc).Nodup
  | [], _, _, h, _ => h
  | y :: ns, acc, nd, h, off => by
    obtain ⟨ny, nd'⟩ := List.nodup_cons.mp nd
    refine sets_nodupF ns _ nd' (List.nodup_append.mpr ⟨h, List.pairwise_map.mpr (h.imp fun ne e => ne (List.append_cancel_right e)), fun a ha b hb e => ?_⟩) fun q hq x hx => ?_
    · obtain ⟨c, mc, rfl⟩ := List.mem_map.mp hb
      exact off a ha y (by rw [e]; simp) List.mem_cons_self
    · rcases List.mem_append.mp hq with hq | hq
      · exact fun z => off q hq x hx (List.mem_cons_of_mem _ z)
      · obtain ⟨c, mc, rfl⟩ := List.mem_map.mp hq
        rcases List.mem_append.mp hx with hx | hx
        · exact fun z => off c mc x hx (List.mem_cons_of_mem _ z)
        · rw [List.mem_singleton.mp hx]
          exact ny
theorem sets_nodup {ns : List Str} (nd : ns.Nodup) : (setsR ns).Nodup := sets_nodupF ns [[]] nd (by simp) (fun q hq x hx => by
  rw [List.mem_singleton.mp hq] at hx
  cases hx)
theorem sets_nil (ns : List Str) : [] ∈ setsR ns := by
  obtain ⟨es, e⟩ := sets_head ns
  rw [e]
  exact List.mem_cons_self
/-- every part of a group, in the group's order, is one of its choices -/
theorem partF_in : ∀ (ns q : List Str) (acc : List (List Str)) (r : List Str), q.Sublist ns → r ∈ acc → r ++ q ∈ ns.foldl (fun acc x => acc ++ acc.map (· ++ [x])) acc
  | [], q, acc, r, h, hr => by
    rw [List.sublist_nil.mp h, List.append_nil]
    exact hr
  | y :: ns, q, acc, r, h, hr => by
    cases h with
    | cons _ h => exact partF_in ns q _ r h (List.mem_append_left _ hr)
    | cons_cons _ h =>
      rename_i q'
      have := partF_in ns q' (acc ++ acc.map (· ++ [y])) (r ++ [y]) h (List.mem_append_right _ (List.mem_map_of_mem hr))
      rwa [List.append_assoc] at this
theorem part_in {ns q : List Str} (h : q.Sublist ns) : q ∈ setsR ns := partF_in ns q [[]] [] h (by simp)
/-! ### the group's hands, in the stand's order -/
def gR (ns : List Str) (hs : List (Str × List (List Int))) : List Str := (hs.map Prod.fst).filter fun x => decide (x ∈ ns)
theorem gR_take {ns : List Str} {hs : List (Str × List (List Int))} {i : Nat} {x : Str × List (List Int)} (h : hs[i]? = some x) : gR ns (hs.take (i + 1)) = gR ns (hs.take i) ++ (if x.1 ∈ ns then [x.1] else []) := by
  unfold gR
  rw [List.take_add_one, h, List.map_append, List.filter_append]
  congr 1
  by_cases m : x.1 ∈ ns
  · simp [m]
  · simp [m]
theorem gR_sub : ∀ {ms ns : List Str}, ms.Sublist ns → ns.Nodup → ns.filter (fun x => decide (x ∈ ms)) = ms
  | _, _, .slnil, _ => rfl
  | ms, y :: ns, .cons _ h, nd => by
    obtain ⟨ny, nd'⟩ := List.nodup_cons.mp nd
    rw [List.filter_cons_of_neg (by simp; exact fun z => ny (h.mem z))]
    exact gR_sub h nd'
  | y :: ms, _ :: ns, .cons_cons _ h, nd => by
    obtain ⟨ny, nd'⟩ := List.nodup_cons.mp nd
    rw [List.filter_cons_of_pos (by simp)]
    congr 1
    have e : ns.filter (fun x => decide (x ∈ y :: ms)) = ns.filter (fun x => decide (x ∈ ms)) := List.filter_congr fun x hx => by
      have : x ≠ y := fun z => ny (by rw [← z]; exact hx)
      simp [this]
    rw [e]
    exact gR_sub h nd'
theorem gR_len (ns : List Str) (hs : List (Str × List (List Int))) : (gR ns hs).length ≤ hs.length := by
  unfold gR
  have := List.length_filter_le (fun x => decide (x ∈ ns)) (hs.map Prod.fst)
  rwa [List.length_map] at this
/-! ### the rooms -/
/-- the room of a part -/
def roomR (p : Int) (n : Nat) (kn : List (List Int)) (hs : List (Str × List (List Int))) (q : List Str) : List (List Int) := plainR p n (kn ++ selR q hs)
theorem fst_inj {hs : List (Str × List (List Int))} (nd : (hs.map Prod.fst).Nodup) {x y : Str × List (List Int)} (hx : x ∈ hs) (hy : y ∈ hs) (e : x.1 = y.1) : x = y := by
  induction hs with
  | nil => cases hx
  | cons z hs ih =>
    rw [List.map_cons] at nd
    obtain ⟨nz, nd'⟩ := List.nodup_cons.mp nd
    rcases List.mem_cons.mp hx with h1 | h1 <;> rcases List.mem_cons.mp hy with h2 | h2
    · rw [h1, h2]
    · exact (nz (by rw [← h1, e]; exact List.mem_map_of_mem h2)).elim
    · exact (nz (by rw [← h2, ← e]; exact List.mem_map_of_mem h1)).elim
    · exact ih nd' h1 h2
section
variable {p : Int} {n : Nat} {kn : List (List Int)} {hs : List (Str × List (List Int))}
theorem room_rows (S : Stand5 p n kn hs) (q : List Str) : RowsOk p n (kn ++ selR q hs) := rowsOk_app S.pk.1 (sel_ok S.toR.rm)
theorem room_pf (S : Stand5 p n kn hs) (q : List Str) : PFR p n (roomR p n kn hs q) := PFR.of_plain S.fld (room_rows S q)
theorem room_nil (S : Stand5 p n kn hs) : roomR p n kn hs [] = kn := by
  unfold roomR
  have : selR [] hs = [] := by
    unfold selR
    induction hs with
    | nil => rfl
    | cons x hs ih => simp
  rw [this, List.append_nil]
  exact S.pk.2
theorem room_more (S : Stand5 p n kn hs) {x : Str × List (List Int)} (hx : x ∈ hs) (q : List Str) : plainR p n (roomR p n kn hs q ++ x.2) = roomR p n kn hs (q ++ [x.1]) := by
  have F := S.fld
  have o1 := room_rows S q
  have o2 := room_rows S (q ++ [x.1])
  have ox := (S.ph x hx).1
  unfold roomR
  refine plain_same F (rowsOk_app (PFR.of_plain F o1).1 ox) o2 (fun r hr => ?_) (fun r hr => ?_)
  · rcases List.mem_append.mp hr with hr | hr
    · refine InR.mono (fun z hz => ?_) ((InR.plain F o1).mp (InR.mem hr))
      rcases List.mem_append.mp hz with hz | hz
      · exact InR.mem (List.mem_append_left _ hz)
      · obtain ⟨y, my, a, b⟩ := sel_mem hz
        exact InR.mem (List.mem_append_right _ (mem_sel my (List.mem_append_left _ a) b))
    · exact InR.mem (List.mem_append_right _ (mem_sel hx (by simp) hr))
  · have up : ∀ z, InR p (kn ++ selR q hs) z → InR p (plainR p n (kn ++ selR q hs) ++ x.2) z := fun z hz => InR.mono (fun y hy => InR.mem (List.mem_append_left _ hy)) ((InR.plain F o1).mpr hz)
    rcases List.mem_append.mp hr with hr | hr
    · exact up r (InR.mem (List.mem_append_left _ hr))
    · obtain ⟨y, my, a, b⟩ := sel_mem hr
      rcases List.mem_append.mp a with a | a
      · exact up r (InR.mem (List.mem_append_right _ (mem_sel my a b)))
      · have e := fst_inj S.nd my hx (List.mem_singleton.mp a)
        rw [e] at b
        exact InR.mem (List.mem_append_right _ b)
theorem room_size (S : Stand5 p n kn hs) (q : List Str) : ((roomR p n kn hs q).length : Int) - ((roomR p n kn hs []).length : Int) = sizeR p n kn hs q := by
  rw [room_nil S]
  rfl
end
/-! ### the dict -/
theorem val_none {kvs : List (List L2.Key × V)} {k : List L2.Key} (h : k ∉ kvs.map (·.1)) : valV kvs k = none := by
  unfold valV
  rw [Option.map_eq_none_iff, List.find?_eq_none]
  intro x hx e
  exact h (by rw [← of_decide_eq_true e]; exact List.mem_map_of_mem hx)
/-- the dict at o tells a room f q by each of the parts ps, in this order -/
structure RoomsT (K : PySem.W.Frag) (H : Hp) (o : Addr) (f : List Str → List (List Int)) (ps : List (List Str)) (kvs : List (List L2.Key × V)) : Prop where
  at_ : H o = some (.dT kvs)
  keys : kvs.map (·.1) = ps.map pk
  val : ∀ q ∈ ps, ∃ r, valV kvs (pk q) = some (.ref r) ∧ RowsAt K H r (f q)
section
variable {K : PySem.W.Frag} {H H' : Hp} {o : Addr} {f : List Str → List (List Int)} {ps : List (List Str)} {kvs : List (List L2.Key × V)}
theorem RoomsT.len (h : RoomsT K H o f ps kvs) : kvs.length = ps.length := by
  have := congrArg List.length h.keys
  rwa [List.length_map, List.length_map] at this
theorem RoomsT.same (h : RoomsT K H o f ps kvs) (s : Same H H') : RoomsT K H' o f ps kvs := ⟨s _ _ h.at_, h.keys, fun q hq => by
  obtain ⟨r, a, b⟩ := h.val q hq
  exact ⟨r, a, b.same s⟩⟩
theorem Tk.dic {D : Addr} {u : HO} (h : H D = some (.dT kvs)) : Tk H (upd H D u) := fun K a xs q => by
  have ne : ∀ {w : HO}, H a = some w → (∀ k, w ≠ .dT k) → a ≠ D := fun {w} e n z => by
    rw [z, h] at e
    exact n _ (Option.some.inj e).symm
  rcases q with (q | ⟨x, q⟩) | q
  · exact .inl (.inl (by rw [upd_ne (ne q fun k z => by cases z)]; exact q))
  · exact .inl (.inr ⟨x, by rw [upd_ne (ne q fun k z => by cases z)]; exact q⟩)
  · exact .inr q
theorem RoomsT.put (h : RoomsT K H o f ps kvs) {q : List Str} {l : Addr} (nq : q ∉ ps) (hl : RowsAt K H l (f q)) : RoomsT K (upd H o (.dT (putK kvs (pk q) (.ref l)))) o f (ps ++ [q]) (putK kvs (pk q) (.ref l)) := by
  have nk : valV kvs (pk q) = none := val_none (by
    rw [h.keys]
    intro z
    obtain ⟨r, mr, e⟩ := List.mem_map.mp z
    exact nq (by rw [← pk_inj e]; exact mr))
  have tk : Tk H (upd H o (.dT (putK kvs (pk q) (.ref l)))) := Tk.dic h.at_
  refine ⟨upd_same, by rw [putK_new _ nk, List.map_append, h.keys, List.map_append]; rfl, fun r hr => ?_⟩
  rw [valV_put]
  by_cases e : pk r = pk q
  · rw [if_pos e, pk_inj e]
    exact ⟨l, rfl, RowsAt.tk2 tk hl⟩
  · rw [if_neg e]
    rcases List.mem_append.mp hr with hr | hr
    · obtain ⟨a, x, y⟩ := h.val r hr
      exact ⟨a, x, RowsAt.tk2 tk y⟩
    · exact (e (by rw [List.mem_singleton.mp hr])).elim
end
/-- the dict of numbers by the parts -/
def sizesT (g : List Str → Int) (ps : List (List Str)) : List (List L2.Key × V) := ps.map fun q => (pk q, .int (g q))
theorem sizes_val {g : List Str → Int} {ps : List (List Str)} {q : List Str} (h : q ∈ ps) : valV (sizesT g ps) (pk q) = some (.int (g q)) := by
  induction ps with
  | nil => cases h
  | cons r ps ih =>
    by_cases e : pk r = pk q
    · rw [show sizesT g (r :: ps) = (pk r, .int (g r)) :: sizesT g ps from rfl, valV_pos e, pk_inj e]
    · rw [show sizesT g (r :: ps) = (pk r, .int (g r)) :: sizesT g ps from rfl, valV_neg e]
      rcases List.mem_cons.mp h with h | h
      · exact (e (by rw [h])).elim
      · exact ih h
theorem sizes_none {g : List Str → Int} {ps : List (List Str)} {q : List Str} (h : q ∉ ps) : valV (sizesT g ps) (pk q) = none := val_none (by
  unfold sizesT
  rw [List.map_map]
  intro z
  obtain ⟨r, mr, e⟩ := List.mem_map.mp z
  exact h (by rw [← pk_inj (q := r) (r := q) e]; exact mr))
end OC

set_option Elab.async false
set_option linter.all false
set_option maxRecDepth 100000
set_option maxHeartbeats 4000000
/-! d[t]: t any tuple that is known, not just one in the heap -/
namespace OC
open PySem PySem.Spec PyProof.Rows L2
def tDGetS (K : PySem.W.Frag) (td ty : TE) : TE := fun σ H Q => td σ H fun x H1 => ty σ H1 fun y H2 => ∃ a kvs k b v, x = .ref a ∧ Rd H2 a (.dT kvs) ∧ y = .ref b ∧ SqT K H2 b (k.map kV) ∧ valV kvs k = some v ∧ Q v H2
section
variable {X : Cx} {K : PySem.W.Frag} {o i : Expr} {pos : Pos} {td ty : TE}
theorem pe_dgetS (eK : X.K = K) (hu : X.A.units + 1 < cLine) (ho : PE X o td) (hi : PE X i ty) (hs : NoSl i) : PE X (.Subscript o i pos) (tDGetS K td ty) := by
  subst eK
  refine ⟨fun pins s σ H Q I h => ?_⟩
  refine subD_of PySem.F.slot_dict_getitem.lookup hs (thn (ho.run pins s σ H _ I h) fun u s1 h1 => ?_)
  obtain ⟨x, H1, I1, rx, q1⟩ := h1
  refine thn (hi.run pins s1 σ H1 _ I1 q1) fun iv s2 h2 => ?_
  obtain ⟨y, H2, I2, ry, a, kvs, k, b, v, rfl, rd, rfl, hb, hv, q2⟩ := h2
  obtain rfl : u = Value.ref a := rx
  obtain rfl : iv = Value.ref b := ry
  obtain ⟨z, nsys, xs, rel, dd⟩ := dt_rd I2.hok rd
  obtain ⟨its, rv, ⟨ob, e1, e2, n, e3⟩, _⟩ := I2.tuple hb
  have key : (tupleKind (mixKind X.prog X.w)).is s2.heap k b := ⟨ob, its.toArray, n, e1, e2, e3, by simpa using items_are rv⟩
  obtain ⟨w', hw, rw'⟩ := RelO.some_of (v := v) (o := (atKey xs k).map (·.2)) (by rw [← hv]; exact rel.val k)
  obtain ⟨e, he, he2⟩ := Option.map_eq_some_iff.mp hw
  refine ⟨dd.typeIs, wpAny_getItem_heap (tupleKind_room_in1 hu) key dd he ?_⟩
  rw [he2]
  exact ⟨v, H2, I2.tok _, rw', q2⟩
end
/-- the list of a dict's keys -/
theorem keys_get {H : Hp} : ∀ {kvs : List (List L2.Key × V)} {bs : List Addr} {ps : List (List Str)}, IsKeys H kvs bs → kvs.map (·.1) = ps.map pk → bs.length = ps.length ∧ ∀ (j : Nat) (q : List Str), ps[j]? = some q → ∃ b, bs[j]? = some b ∧ H b = some (.tup (q.map V.str))
  | [], _, ps, h, e => by
    cases h
    cases ps with
    | nil => exact ⟨rfl, fun j q z => by simp at z⟩
    | cons _ _ => cases e
  | kv :: kvs, _, ps, h, e => by
    cases h with
    | @cons _ b _ bs h1 h2 =>
      cases ps with
      | nil => cases e
      | cons q ps =>
        rw [List.map_cons, List.map_cons] at e
        obtain ⟨e1, e2⟩ := List.cons.inj e
        obtain ⟨l, g⟩ := keys_get h2 e2
        refine ⟨by rw [List.length_cons, List.length_cons, l], fun j r z => ?_⟩
        cases j with
        | zero =>
          cases z
          exact ⟨b, rfl, by rw [← pk_v, ← e1]; exact h1⟩
        | succ j => exact g j r z
theorem nd_take {α : Type} {l : List α} {j : Nat} {x : α} (nd : l.Nodup) (h : l[j]? = some x) : x ∉ l.take j := fun z => by
  obtain ⟨i, hi, e⟩ := List.getElem_of_mem z
  rw [List.length_take] at hi
  rw [List.getElem_take] at e
  obtain ⟨hj, ej⟩ := List.getElem?_eq_some_iff.mp h
  have := (List.getElem_inj (i := i) (j := j) (h₀ := by omega) (h₁ := hj) nd).mp (by rw [e, ej])
  omega
theorem same_kept {H H1 H2 : Hp} {o : Addr} (s : Same H H1) (k : Kept o o H1 H2) (n : H o = none) : Same H H2 := fun b u e => by
  have ne : b ≠ o := fun z => by
    rw [z, n] at e
    cases e
  exact k b u (s b u e) ne ne
theorem kept_put {H H1 : Hp} {o : Addr} {u : HO} (k : Kept o o H H1) : Kept o o H (upd H1 o u) := fun b w e n m => by
  rw [upd_ne n]
  exact k b w e n m
end OC

set_option Elab.async false
set_option linter.all false
set_option maxRecDepth 100000
set_option maxHeartbeats 4000000
/-! the greatest bound; a def whose code object is known -/
namespace OC
open PySem PySem.Spec PyProof.Rows L2 LamX
/-- a def by name, its code object at c -/
structure DfC (K : PySem.W.Frag) (mg : Str → Option Value) (x : Str) (st : Stmt) (ps : List Str) (c : Addr) : Prop where
  ex : ∃ (f : Addr) (oc : Value) (od an : Option Addr) (kV doc pm ct : Value) (osl : Array (Option Value)),
    K.lookup f = some ⟨oc, od, .func (PySem.W.fnOf x x (defArgs st) (defBody st) (defScope st) .none kV doc pm an (.ref c) ct), osl⟩ ∧ PySem.W.codeIn K (.ref c) x = true ∧ PySem.W.keepIn K (.ref f) = true ∧ mg x = some (.ref f) ∧
    Binds K (PySem.W.fnOf x x (defArgs st) (defBody st) (defScope st) .none kV doc pm an (.ref c) ct) ps []
section
variable {P : Program} {w : World} {K : PySem.W.Frag} {mg : Str → Option Value} {base : Heap}
theorem DfC.ok {x : Str} {st : Stmt} {N ps : List Str} {k : Nat} {c : Addr} {sp : Sp} (D : DfC K mg x st ps c) (S : FnScope N ps (defScope st)) (len : ∀ vs H Q E, sp vs H Q E → vs.length = ps.length)
    (hbody : ∀ (f : Addr) (A : Around) (outer : List Env) (s : Shared) (H : Hp) (vs : List V) (Q : VK) (E : XK), Room k (A.deeper (envOfC x (defScope st) s.heap.objs.size f (.ref c))) → sp vs H Q E →
      ∃ t, PSs (cxOf CX0 P w K mg base N x (defScope st) f (.ref c) A outer s H E).nox (defBody st) t ∧ t { nx := fun _ H' => Q .non H', rt := Q } (start N vs) H) : Ok P w K mg base (k + 1) x ps sp := by
  obtain ⟨f, oc, od, an, kV, doc, pm, ct, osl, lk, hc, hk, hm, hb⟩ := D.ex
  refine ⟨f, _, fn_of (CX := CX0) lk hc S len fun A outer s H vs Q E hr hsp => ?_, hm, hk, hb⟩
  obtain ⟨t, ht, hq⟩ := hbody f A outer s H vs Q E hr hsp
  exact ⟨t, ht.nox, hq⟩
theorem dfC_of {h : Heap} {x : Str} {st : Stmt} {ps : List Str} {f c PT : Addr} {oc : Value} {od an : Option Addr} {osl : Array (Option Value)} {kV doc pm cdv ct : Value} (X : K.In h) (G : h.Ns mainGlobals mg) (a : PySem.W.nsIn K mainGlobals x = some (some (.ref f)))
    (l : K.lookup f = some ⟨oc, od, .func (PySem.W.fnOf x x (defArgs st) (defBody st) (defScope st) .none kV doc pm an cdv ct), osl⟩) (hc : PySem.W.codeIn K cdv x = true) (hk : PySem.W.keepIn K (.ref f) = true) (ht : PySem.W.tabIn K x = some (c, PT))
    (hb : ∀ (kV doc pm : Value) (an : Option Addr) (cdv ct : Value) (us : List Value), us.length = ps.length → bindArgs (PySem.W.fnOf x x (defArgs st) (defBody st) (defScope st) .none kV doc pm an cdv ct) ⟨us, []⟩ = pure (ps.zip us)) : DfC K mg x st ps c := by
  have ec : cdv = .ref c := by
    unfold PySem.W.tabIn at ht
    rw [a] at ht
    dsimp only at ht
    rw [l] at ht
    dsimp only at ht
    cases cdv with
    | ref c' =>
      dsimp only at ht
      split at ht
      · split at ht
        · rw [(Prod.mk.inj (Option.some.inj ht)).1]
        · cases ht
      · cases ht
    | _ => cases ht
  subst ec
  exact ⟨f, oc, od, an, kV, doc, pm, ct, osl, l, hc, hk, PySem.W.mg_of X G a, .all (hb kV doc pm an _ ct)⟩
end
theorem tab_mk {K : PySem.W.Frag} {x : Str} {f c PT : Addr} {oc ocT : Value} {od odT : Option Addr} {osl slT : Array (Option Value)} {fd : FuncData} {cd : Value} {vsT : Array Value} (a : PySem.W.nsIn K mainGlobals x = some (some (.ref f))) (l : K.lookup f = some ⟨oc, od, .func fd, osl⟩) (e : fd.code = cd) (hcd : cd = .ref c)
    (lT : K.lookup c = some ⟨ocT, odT, .fields vsT, slT⟩) (h11 : vsT[11]? = some (.ref PT)) : PySem.W.tabIn K x = some (c, PT) := by
  unfold PySem.W.tabIn
  rw [a]
  dsimp only
  rw [l]
  dsimp only
  rw [e, hcd]
  dsimp only
  rw [lT]
  dsimp only
  rw [h11]
/-! ### parts of splits stand in the group's order -/
theorem split_subF : ∀ (ns : List Str) (acc : List (List (List Str))) (A : List Str), (∀ s ∈ acc, ∀ q ∈ s, q.Sublist A) → ∀ s ∈ ns.foldl (fun acc x => acc.flatMap (growR x)) acc, ∀ q ∈ s, q.Sublist (A ++ ns)
  | [], acc, A, h, s, hs, q, hq => by
    rw [List.append_nil]
    exact h s hs q hq
  | x :: ns, acc, A, h, s, hs, q, hq => by
    have := split_subF ns (acc.flatMap (growR x)) (A ++ [x]) (fun t ht r hr => by
      obtain ⟨u, mu, ht⟩ := List.mem_flatMap.mp ht
      have old : ∀ y ∈ u, y.Sublist (A ++ [x]) := fun y hy => (h u mu y hy).trans (List.sublist_append_left _ _)
      rcases grow_mem ht with ⟨k, hk, rfl⟩ | rfl
      · rcases List.mem_append.mp hr with hr | hr
        · exact old r (List.mem_of_mem_take hr)
        · rcases List.mem_append.mp hr with hr | hr
          · rw [List.mem_singleton.mp hr]
            refine List.Sublist.append (h u mu _ ?_) (List.Sublist.refl _)
            rw [List.getD_eq_getElem?_getD, List.getElem?_eq_getElem hk]
            exact List.getElem_mem hk
          · exact old r (List.mem_of_mem_drop hr)
      · rcases List.mem_append.mp hr with hr | hr
        · exact old r hr
        · rw [List.mem_singleton.mp hr]
          exact List.sublist_append_right _ _) s hs q hq
    rwa [List.append_assoc] at this
theorem split_sub {ns : List Str} {s : List (List Str)} (h : s ∈ splitsR ns) {q : List Str} (hq : q ∈ s) : q.Sublist ns := by
  have := split_subF ns [[]] [] (fun s hs q hq => by
    rw [List.mem_singleton.mp hs] at hq
    cases hq) s h q hq
  rwa [List.nil_append] at this
/-! ### the greatest bound -/
def boundOf (z : Int) (ns : List Int) : Int := z - (ns.sum - z) / ((ns.length : Int) - 1)
/-- the bound of a parting, by how much its parts know -/
def boundG (f : List Str → Int) (ms : List Str) (P : List (List Str)) : Int := boundOf (f ms) (P.map f)
/-- the first of the group's partings with the greatest bound -/
structure BestP (f : List Str → Int) (ms : List Str) (P : List (List Str)) : Prop where
  ex : ∃ m : Nat, (partingsR ms)[m]? = some P ∧ ∀ (j : Nat) (P' : List (List Str)), (partingsR ms)[j]? = some P' → boundG f ms P' ≤ boundG f ms P ∧ (j < m → boundG f ms P' < boundG f ms P)
theorem BestP.uniq {f : List Str → Int} {ms : List Str} {P P' : List (List Str)} (a : BestP f ms P) (b : BestP f ms P') : P = P' := by
  obtain ⟨m, hm, am⟩ := a.ex
  obtain ⟨m', hm', bm⟩ := b.ex
  have h1 := am m' P' hm'
  have h2 := bm m P hm
  rcases Nat.lt_trichotomy m m' with h | h | h
  · have := h2.2 h
    omega
  · subst h
    rw [hm] at hm'
    exact Option.some.inj hm'
  · have := h1.2 h
    omega
theorem BestP.mem {f : List Str → Int} {ms : List Str} {P : List (List Str)} (a : BestP f ms P) : P ∈ partingsR ms := by
  obtain ⟨m, hm, _⟩ := a.ex
  exact List.mem_of_getElem? hm
theorem BestP.le {f : List Str → Int} {ms : List Str} {P P' : List (List Str)} (a : BestP f ms P) (h : P' ∈ partingsR ms) : boundG f ms P' ≤ boundG f ms P := by
  obtain ⟨m, hm, am⟩ := a.ex
  obtain ⟨j, hj, e⟩ := List.getElem_of_mem h
  exact (am j P' (by rw [List.getElem?_eq_getElem hj, e])).1
end OC

set_option Elab.async false
set_option linter.all false
set_option maxRecDepth 100000
set_option maxHeartbeats 4000000
/-! dict() of a list of pairs whose keys are tuples; lists of tuples of names that stand in the heap -/
namespace OC
open PySem PySem.Spec PyProof.Rows L2 PySem.W
/-! ### tuples of names in the heap -/
inductive TxAll (H : Hp) : List V → List (List Str) → Prop
  | nil : TxAll H [] []
  | cons {b : Addr} {q : List Str} {ws : List V} {qs : List (List Str)} : H b = some (.tup (q.map V.str)) → TxAll H ws qs → TxAll H (.ref b :: ws) (q :: qs)
theorem txD_inj {q r : List Str} (h : txD q = txD r) : q = r := by
  unfold txD at h
  injection h with h
  induction q generalizing r with
  | nil => cases r with
    | nil => rfl
    | cons _ _ => cases h
  | cons x q ih => cases r with
    | nil => cases h
    | cons y r =>
      obtain ⟨h1, h2⟩ := List.cons.inj h
      injection h1 with h1
      rw [h1, ih h2]
section
variable {H H' : Hp}
theorem TxAll.same (s : Same H H') : ∀ {ws : List V} {qs : List (List Str)}, TxAll H ws qs → TxAll H' ws qs
  | _, _, .nil => .nil
  | _, _, .cons h t => .cons (s _ _ h) (t.same s)
theorem TxAll.app : ∀ {ws us : List V} {qs rs : List (List Str)}, TxAll H ws qs → TxAll H us rs → TxAll H (ws ++ us) (qs ++ rs)
  | _, _, _, _, .nil, h => h
  | _, _, _, _, .cons h t, g => .cons h (t.app g)
theorem TxAll.len : ∀ {ws : List V} {qs : List (List Str)}, TxAll H ws qs → ws.length = qs.length
  | _, _, .nil => rfl
  | _, _, .cons _ t => by rw [List.length_cons, List.length_cons, t.len]
theorem TxAll.get : ∀ {ws : List V} {qs : List (List Str)} {i : Nat} {v : V}, TxAll H ws qs → ws[i]? = some v → ∃ b q, v = .ref b ∧ qs[i]? = some q ∧ q ∈ qs ∧ H b = some (.tup (q.map V.str))
  | _, _, _, _, .nil, e => by simp at e
  | _, _, 0, _, .cons (b := b) (q := q) h t, e => by
    cases e
    exact ⟨b, q, rfl, rfl, List.mem_cons_self, h⟩
  | _, _, i + 1, v, .cons h t, e => by
    obtain ⟨b, q, e1, e2, e3, e4⟩ := t.get (i := i) (v := v) e
    exact ⟨b, q, e1, e2, List.mem_cons_of_mem _ e3, e4⟩
theorem TxAll.drop : ∀ {ws : List V} {qs : List (List Str)} (k : Nat), TxAll H ws qs → TxAll H (ws.drop k) (qs.drop k)
  | _, _, 0, h => h
  | _, _, _ + 1, .nil => .nil
  | _, _, k + 1, .cons _ t => t.drop k
theorem TxAll.mut {D : Addr} {xs ys : List V} (e : H D = some (.lst xs)) : ∀ {ws : List V} {qs : List (List Str)}, TxAll H ws qs → TxAll (upd H D (.lst ys)) ws qs
  | _, _, .nil => .nil
  | _, _, .cons h t => .cons (by
      rw [upd_ne (fun z => by
        rw [z, e] at h
        cases h)]
      exact h) (t.mut e)
theorem TxAll.dp {K : PySem.W.Frag} : ∀ {ws : List V} {qs : List (List Str)}, TxAll H ws qs → DpAll K H ws (qs.map txD)
  | _, _, .nil => .nil
  | _, _, .cons h t => .cons (.tup (.inl (.inl h)) (dpAll_strs _)) t.dp
/-- each with its data, in any order -/
theorem TxAll.pairs : ∀ {ws : List V} {qs : List (List Str)}, TxAll H ws qs → ∀ p ∈ ws.zip (qs.map txD), ∃ b q, p = (.ref b, txD q) ∧ H b = some (.tup (q.map V.str))
  | _, _, .nil, p, hp => (nomatch hp)
  | _, _, .cons (b := b) (q := q) h t, p, hp => by
    rw [List.map_cons, List.zip_cons_cons] at hp
    rcases List.mem_cons.mp hp with rfl | hp
    · exact ⟨b, q, rfl, h⟩
    · exact t.pairs p hp
theorem TxAll.of : ∀ {ps : List (V × PyData)} {rs : List (List Str)}, (∀ p ∈ ps, ∃ b q, p = (.ref b, txD q) ∧ H b = some (.tup (q.map V.str))) → ps.map Prod.snd = rs.map txD → TxAll H (ps.map Prod.fst) rs
  | [], [], _, _ => .nil
  | [], _ :: _, _, e => by cases e
  | _ :: _, [], _, e => by cases e
  | p :: ps, r :: rs, h, e => by
    rw [List.map_cons, List.map_cons] at e
    obtain ⟨e1, e2⟩ := List.cons.inj e
    obtain ⟨b, q, rfl, hb⟩ := h p List.mem_cons_self
    have : q = r := txD_inj e1
    subst this
    exact .cons hb (TxAll.of (fun p hp => h p (List.mem_cons_of_mem _ hp)) e2)
end
/-! ### dict() -/
theorem stored_new {ps : List (List L2.Key × Addr × Value)} : ∀ {xs : List (List L2.Key × Addr × Value)}, ((xs ++ ps).map (·.1)).Nodup → storedAllH xs ps = xs ++ ps := by
  induction ps with
  | nil =>
    intro xs _
    rw [List.append_nil]
    rfl
  | cons p ps ih =>
    intro xs nd
    have e : xs ++ p :: ps = (xs ++ [p]) ++ ps := by rw [List.append_assoc]; rfl
    rw [e] at nd ⊢
    rw [← ih nd]
    show storedAllH (storedH xs p.1 p.2.1 p.2.2) ps = _
    have nk : atKey xs p.1 = none := by
      rw [List.map_append, List.map_append] at nd
      have nd := (List.nodup_append.mp nd).1
      have off := (List.nodup_append.mp nd).2.2
      cases h : atKey xs p.1 with
      | none => rfl
      | some z =>
        exfalso
        have hm : p.1 ∈ xs.map (·.1) := by
          unfold atKey at h
          obtain ⟨y, hy, _⟩ := Option.map_eq_some_iff.mp h
          have := List.find?_some hy
          have e := of_decide_eq_true this
          rw [← e]
          exact List.mem_map_of_mem (List.mem_of_find?_eq_some hy)
        exact off _ hm _ (List.mem_singleton.mpr rfl) rfl
    rw [storedH_new nk]
/-- the pairs in the model -/
theorem pairs_T {X : Cx} {pins : List (Addr × Obj)} {σ : L2.St} {H : Hp} {s : Shared} (I : L2.Inv X pins σ H s) : ∀ {ps : List Addr} {es : List (List L2.Key × Addr × V)}, Paired (fun p e => SqT X.K H p [.ref e.2.1, e.2.2] ∧ H e.2.1 = some (.tup (e.1.map kV))) ps es →
    ∃ (prs : List (List L2.Key × Addr × Value)) (vps : List (Value × Value)), KT H (es.map fun e => (e.1, e.2.2)) prs ∧ prs.map (·.1) = es.map (·.1) ∧ prs.length = ps.length ∧ vps.length = ps.length ∧ (∀ x ∈ prs, ∃ k, x.1 = k ∧ H x.2.1 = some (.tup (k.map kV))) ∧
      ∀ (j : Nat) (k v : Value), vps[j]? = some (k, v) → (∃ b, ps[j]? = some b ∧ PairAt s.heap b k v) ∧ ∃ q b, prs[j]? = some (q, b, v) ∧ k = .ref b
  | _, _, .nil => ⟨[], [], .nil, rfl, rfl, rfl, fun x hx => (nomatch hx), fun j k v e => by simp at e⟩
  | _, _, .cons (a := p) (b := e) h t => by
    obtain ⟨prs, vps, r, ks, hl, hv, hk, hp⟩ := pairs_T I t
    obtain ⟨its, rv, ht, _⟩ := I.tuple h.1
    obtain ⟨u, y, ei, ru, ry⟩ := vals2 rv
    subst ei
    obtain rfl : u = Value.ref e.2.1 := ru
    refine ⟨(e.1, e.2.1, y) :: prs, (.ref e.2.1, y) :: vps, .cons ⟨rfl, h.2, ry⟩ r, by rw [List.map_cons, List.map_cons, ks], by rw [List.length_cons, List.length_cons, hl], by rw [List.length_cons, List.length_cons, hv], fun x hx => ?_, fun j k v ej => ?_⟩
    · rcases List.mem_cons.mp hx with rfl | hx
      · exact ⟨_, rfl, h.2⟩
      · exact hk x hx
    · cases j with
      | zero =>
        have e' : (Value.ref e.2.1, y) = (k, v) := Option.some.inj ej
        cases e'
        refine ⟨⟨p, rfl, .inl ?_⟩, e.1, e.2.1, rfl, rfl⟩
        obtain ⟨o, h1, h2, n, h3⟩ := ht
        exact ⟨o, h1, h2, n, h3⟩
      | succ j =>
        obtain ⟨⟨b, e1, e2⟩, q, c, e3, e4⟩ := hp j k v (by simpa using ej)
        exact ⟨⟨b, by simpa using e1, e2⟩, q, c, by simpa using e3, e4⟩
def rDictP2 (K : PySem.W.Frag) : List V → Hp → VK → Prop := fun xs H Q => ∃ (a : Addr) (ps : List Addr) (es : List (List L2.Key × Addr × V)), xs = [.ref a] ∧ SqL K H a (ps.map V.ref) ∧ Paired (fun p e => SqT K H p [.ref e.2.1, e.2.2] ∧ H e.2.1 = some (.tup (e.1.map kV))) ps es ∧ (es.map (·.1)).Nodup ∧
  ∀ p, H p = none → Q (.ref p) (upd H p (.dT (es.map fun e => (e.1, e.2.2))))
theorem call_dictP2 {X : Cx} (hcalm : X.calm = true) (hu : X.A.units + 65 < cLine) : CallR X (.type "dict") (rDictP2 X.K) := by
  intro pins s σ H xs us Q I r q
  obtain ⟨a, ps, es, rfl, hq, hp, nd, q⟩ := q
  obtain ⟨u, eu, rx⟩ := vals1 r
  subst eu
  cases rx
  obtain ⟨its, rv, ⟨o, n, ho, hc, hd, hdat⟩, hz⟩ := I.list hq
  have ei := refs_at rv
  subst ei
  rw [List.length_map] at hz
  obtain ⟨prs, vps, rel, ks, hl, hv, hk, hpr⟩ := pairs_T I hp
  have key : ∀ h' : Heap, (∀ b o, b ≠ s.heap.objs.size → b ∉ ([] : List Addr) → s.heap.get? b = some o → h'.get? b = some o) → ∀ x ∈ prs, (tupleKind (mixKind X.prog X.w)).is h' x.1 x.2.1 := fun h' stay x hx => by
    obtain ⟨k, e, hb⟩ := hk x hx
    subst e
    obtain ⟨o', items, n', h1, h2, h3, h4⟩ := key_of I.hok hb
    exact ⟨o', items, n', stay _ _ (Nat.ne_of_lt (Heap.lt_size h1)) (fun z => nomatch z) h1, h2, h3, h4⟩
  refine PySem.call_dict_pairsH (knd := tupleKind (mixKind X.prog X.w)) (ps := prs) (PairArg.list a (ps.map Value.ref).toArray (fun j => (ps[j]?).getD 0) vps) (I.ok.hd hcalm) (show X.A.units + 1 + 1 < cLine by omega) ⟨⟨o, n, ho, hc, hd, hdat⟩, by simp [hv], fun j k v e => ?_⟩ ⟨by rw [hl, hv], fun j k v e => ?_⟩ (fun h' stay x hx => key h' stay x hx) (by rw [hv]; exact hz) fun h' tk hd' k => ?_
  · obtain ⟨⟨b, e1, e2⟩, _⟩ := hpr j k v e
    have eg : (ps[j]?).getD 0 = b := by rw [e1]; rfl
    exact ⟨by simp [e1], by show PairAt s.heap ((ps[j]?).getD 0) k v; rw [eg]; exact e2⟩
  · obtain ⟨_, q', b, e3, e4⟩ := hpr j k v e
    exact ⟨q', b, e3, e4⟩
  · have hm : (s.heap.objs.size == sysModules) = false := beq_eq_false_iff_ne.mpr (Nat.ne_of_gt I.big)
    rw [stored_new (by rw [List.nil_append, ks]; exact nd), List.nil_append] at hd'
    have le : es.length = prs.length := by
      have := congrArg List.length ks
      rw [List.length_map, List.length_map] at this
      exact this.symm
    have hn : H s.heap.objs.size = none := I.hok.fresh (Nat.le_refl _)
    obtain ⟨o2, ee, ep, p1, p2, p3, p4, p5, p6⟩ := hd'
    refine ⟨.ref s.heap.objs.size, upd H s.heap.objs.size (.dT (es.map fun e => (e.1, e.2.2))), I.laid (t' := tk) (fun b o e => k b o (fun z => nomatch z) e) (Nat.le_refl _) ⟨by rw [List.length_map]; omega, hm, prs, Paired.mapP rel fun x y h => ⟨h.1, ?_, h.2.2⟩, o2, ee, ep, p1, p2, p3, p4, p6⟩, rfl, q _ hn⟩
    rw [upd_ne (ne_of_none h.2.1 hn)]
    exact h.2.1
end OC

set_option Elab.async false
set_option linter.all false
set_option maxRecDepth 100000
set_option maxHeartbeats 4000000
/-! min of a list of data; the least of the pairs of a number and a parting -/
namespace OC
open PySem PySem.Spec PyProof.Rows L2 PySem.W
/-- min(l): the item at the place that the data tell -/
def rMinD (K : PySem.W.Frag) : List V → Hp → VK → Prop := fun vs H Q => ∃ (a : Addr) (xs : List V) (ds : List PyData), vs = [V.ref a] ∧ SqL K H a xs ∧ DpAll K H xs ds ∧ 0 < ds.length ∧ AlikeAll ds ∧ (∀ d ∈ ds, d.depth ≤ 8) ∧
  ∀ v, xs[argBest (fun i j => dataLt (ds.getD i .none) (ds.getD j .none)) (ds.length - 1)]? = some v → Q v H
theorem depthAll_le {B : Nat} : ∀ {ds : List PyData}, (∀ d ∈ ds, d.depth ≤ B) → PyData.depthAll ds ≤ B
  | [], _ => Nat.zero_le _
  | d :: ds, h => by
    rw [PyData.depthAll]
    exact Nat.max_le.mpr ⟨h d List.mem_cons_self, depthAll_le fun x hx => h x (List.mem_cons_of_mem _ hx)⟩
theorem vals_get : ∀ {xs : List V} {us : List Value} {i : Nat} {u : Value}, Vals xs us → us[i]? = some u → ∃ v, xs[i]? = some v ∧ RelV v u
  | [], _, _, _, h, e => by
    cases h
    simp at e
  | x :: xs, _, i, u, h, e => by
    cases h with
    | cons r1 r2 =>
      cases i with
      | zero =>
        cases e
        exact ⟨x, rfl, r1⟩
      | succ i => exact vals_get (i := i) r2 e
theorem cr_minD {X : Cx} (hc : X.calm = true) (hu : X.A.units + 65 < cLine) : CallR X (.builtin "min") (rMinD X.K) := by
  intro pins s σ H vs us Q I r h
  obtain ⟨a, xs, ds, rfl, hs, hd, hne, hal, hdp, q⟩ := h
  obtain ⟨its, rv, hl, hz⟩ := I.list hs
  rw [Vals.ref1 r]
  obtain ⟨as, rd⟩ := Dp.readsAll I ds xs its hd rv
  have lx := dpAll_len hd
  have li := rv.length
  refine call_min_walkH (iter_listW (A := X.A.in1) (I.ok.hd hc) hl.isList fun s₂ e W st hfp hw hk => ?_)
  refine ⟨_, _, _, _, _, _, _, s.heap, _, rfl, W, st, hfp, by rw [List.size_toArray]; omega, hw, hk, cmpIn_lt (A := X.A.in1) (by simpa using rd) hal (by
    have := depthAll_le hdp
    show X.A.units + 1 + _ < _
    omega), fun v s' hP m => ?_⟩
  obtain ⟨h', tk, rfl, hk'⟩ := moved_old e rfl m
  have hP : its.toArray[argBest (fun i j => dataLt (ds.getD i .none) (ds.getD j .none)) (its.toArray.size - 1)]? = some v := hP
  rw [List.getElem?_toArray, List.size_toArray, show its.length - 1 = ds.length - 1 by omega] at hP
  obtain ⟨x, gx, rx⟩ := vals_get rv hP
  exact ⟨x, H, I.kept hk', rx, q x gx⟩
/-! ### pairs of a number and a parting -/
def bdD (z : Int) (P : List (List Str)) : PyData := .tuple [.int z, ptD P]
theorem alike_bd (z y : Int) (P R : List (List Str)) : alike (bdD z P) (bdD y R) = true := by
  unfold bdD
  simp only [alike, alikeAll, alike_pt, Bool.and_self]
theorem noL_bd (z : Int) (P : List (List Str)) : noL (bdD z P) = true := by
  unfold bdD
  simp only [noL, noLAll, noL_pt, Bool.and_self]
theorem depth_bd (z : Int) (P : List (List Str)) : (bdD z P).depth ≤ 3 := by
  unfold bdD
  simp only [PyData.depth, PyData.depthAll]
  have := depth_pt P
  omega
theorem lt_bd {z y : Int} {P R : List (List Str)} (h : dataLt (ptD P) (ptD R) = false) : dataLt (bdD z P) (bdD y R) = decide (z < y) := by
  unfold bdD
  rw [dataLt_pair (by simp only [alike]) (alike_pt P R)]
  simp only [PyData.eqv, dataLt_int]
  by_cases e : z = y
  · subst e
    simp [h]
  · have e2 : (z == y) = false := beq_eq_false_iff_ne.mpr e
    simp [e2]
theorem argBest_le (bt : Nat → Nat → Bool) : ∀ n, argBest bt n ≤ n
  | 0 => Nat.le_refl _
  | n + 1 => by
    have := argBest_le bt n
    simp only [argBest]
    split <;> omega
theorem argBest_congr {bt bu : Nat → Nat → Bool} : ∀ n, (∀ i j, j < i → i ≤ n → bt i j = bu i j) → argBest bt n = argBest bu n
  | 0, _ => rfl
  | n + 1, h => by
    have e := argBest_congr n fun i j h1 h2 => h i j h1 (by omega)
    have l := argBest_le bu n
    simp only [argBest]
    rw [e, h (n + 1) (argBest bu n) (by omega) (Nat.le_refl _)]
theorem partings_rise (ns : List Str) : (partingsR ns).Pairwise fun a b => dataLt (ptD b) (ptD a) = false := by
  unfold partingsR
  refine (sort_pairwise (sortLe_total (listOrd itemOrd) false fun b => keyToks (ptD b)) _).imp fun {a b} h => ?_
  have h : dataLe false ptD a b = true := h
  rw [dataLe_eq] at h
  simpa using h
/-- the least of the pairs (the bound turned about, the parting) is that of the first greatest bound -/
theorem least_best {f : List Str → Int} {ms : List Str} {m : Nat} (hl : 0 < (partingsR ms).length) (hm : m = argBest (fun i j => dataLt (((partingsR ms).map fun P => bdD (-boundG f ms P) P).getD i .none) (((partingsR ms).map fun P => bdD (-boundG f ms P) P).getD j .none)) ((partingsR ms).length - 1)) :
    ∃ P, (partingsR ms)[m]? = some P ∧ BestP f ms P := by
  have rise := partings_rise ms
  generalize hp : partingsR ms = ps at hl hm rise
  let g : Nat → Int := fun i => boundG f ms (ps.getD i [])
  have e : argBest (fun i j => dataLt ((ps.map fun P => bdD (-boundG f ms P) P).getD i .none) ((ps.map fun P => bdD (-boundG f ms P) P).getD j .none)) (ps.length - 1) = argBest (fun i j => decide (g i > g j)) (ps.length - 1) := argBest_congr _ fun i j h1 h2 => by
    have li : i < ps.length := by omega
    have lj : j < ps.length := by omega
    have gi : ∀ k (hk : k < ps.length), (ps.map fun P => bdD (-boundG f ms P) P).getD k .none = bdD (-boundG f ms ps[k]) ps[k] := fun k hk => by
      rw [List.getD_eq_getElem?_getD, List.getElem?_map, List.getElem?_eq_getElem hk]
      rfl
    have gg : ∀ k (hk : k < ps.length), g k = boundG f ms ps[k] := fun k hk => by
      show boundG f ms (ps.getD k []) = _
      rw [List.getD_eq_getElem?_getD, List.getElem?_eq_getElem hk]
      rfl
    rw [gi i li, gi j lj, lt_bd ((List.pairwise_iff_getElem.mp rise) j i lj li h1), gg i li, gg j lj]
    exact decide_eq_decide.mpr (by omega)
  rw [e] at hm
  obtain ⟨b1, b2, b3⟩ := best_first g (ps.length - 1)
  rw [← hm] at b1 b2 b3
  have lm : m < ps.length := by omega
  have gg : ∀ k (hk : k < ps.length), g k = boundG f ms ps[k] := fun k hk => by
    show boundG f ms (ps.getD k []) = _
    rw [List.getD_eq_getElem?_getD, List.getElem?_eq_getElem hk]
    rfl
  refine ⟨ps[m], List.getElem?_eq_getElem lm, ⟨m, by rw [hp]; exact List.getElem?_eq_getElem lm, fun j P' hj => ?_⟩⟩
  rw [hp] at hj
  obtain ⟨lj, ej⟩ := List.getElem?_eq_some_iff.mp hj
  have h1 := b2 j (by omega)
  rw [gg j lj, gg m lm, ej] at h1
  refine ⟨h1, fun lt => ?_⟩
  have h2 := b3 j lt
  rwa [gg j lj, gg m lm, ej] at h2
end OC

set_option Elab.async false
set_option linter.all false
set_option maxRecDepth 100000
set_option maxHeartbeats 4000000
/-! tables stay while numbers are drawn; what repr asks of a pair of a number and a parting -/
namespace OC
open PySem PySem.Spec PyProof.Rows L2 LamX
section
variable {T : List (Addr × Str)} {H H' : Hp} {d c e : Addr} {t : Int}
theorem drw_tabs (D : Drw H d c e t) (k : Kept d e H H') (h : Tabs T H) : Tabs T H' := by
  obtain ⟨hd, ⟨cells, rests, h1, h2, r⟩, x⟩ := D
  exact Tabs.kept h hd h2 k
theorem drw_extN (D : Drw H d c e t) (k : ExtN H H') : Drw H' d c e t := by
  obtain ⟨hd, ⟨cells, rests, h1, h2, r⟩, x1, x2, x3, x4⟩ := D
  exact ⟨ExtN.lst k hd, ⟨cells, rests, ExtN.lst k h1, ExtN.lst k h2, r⟩, x1, x2, x3, x4⟩
/-- draws and tables together -/
theorem drw_tkN (D : Drw H d c e t) (k : KeptN d e H H') : Tk H H' := fun K a xs h => by
  obtain ⟨hd, ⟨cells, rests, h1, h2, r⟩, x⟩ := D
  have ne : ∀ {u : HO}, H a = some u → (∀ zs, u ≠ .lst zs) → a ≠ d ∧ a ≠ e := fun {u} g n => ⟨fun z => by
    rw [z, hd] at g
    exact n _ (Option.some.inj g).symm, fun z => by
    rw [z, h2] at g
    exact n _ (Option.some.inj g).symm⟩
  rcases h with (h | ⟨u, h⟩) | h
  · obtain ⟨n1, n2⟩ := ne h fun zs z => by cases z
    exact .inl (.inl (k _ _ h n1 n2 fun ps z => by cases z))
  · obtain ⟨n1, n2⟩ := ne h fun zs z => by cases z
    exact .inl (.inr ⟨u, k _ _ h n1 n2 fun ps z => by cases z⟩)
  · exact .inr h
end
theorem fitz_tx {q : List Str} (h : ∀ x ∈ q, NameOk x) (hl : q.length ≤ 9) : FitZ 1000 1 (txD q) := fitz_names h hl
theorem fitz_pt {P : List (List Str)} (h : ∀ q ∈ P, (∀ x ∈ q, NameOk x) ∧ q.length ≤ 9) (hl : P.length ≤ 9) : FitZ 9100 2 (ptD P) := by
  have := fitz_tuple (B := 1000) (k := 1) (n := 9) (ds := P.map txD) (by rw [List.length_map]; exact hl) fun d m => by
    obtain ⟨q, mq, rfl⟩ := List.mem_map.mp m
    exact fitz_tx (h q mq).1 (h q mq).2
  exact this.mono (by decide) (by decide)
theorem fitz_bd {z : Int} {P : List (List Str)} (h0 : -1000000 ≤ z) (h1 : z ≤ 1000000) (h : ∀ q ∈ P, (∀ x ∈ q, NameOk x) ∧ q.length ≤ 9) (hl : P.length ≤ 9) : FitZ 20000 3 (bdD z P) := by
  have := fitz_tuple (B := 9100) (k := 2) (n := 2) (ds := [.int z, ptD P]) (by simp) fun d m => by
    rcases List.mem_cons.mp m with rfl | m
    · exact (fitz_int h0 h1).mono (by decide) (by decide)
    · rw [List.mem_singleton.mp m]
      exact fitz_pt h hl
  exact this.mono (by decide) (by decide)
/-- a group's partings: names, few -/
theorem part_small {ms : List Str} {P : List (List Str)} (nm : ∀ x ∈ ms, NameOk x) (l6 : ms.length ≤ 6) (h : P ∈ partingsR ms) : (∀ q ∈ P, (∀ x ∈ q, NameOk x) ∧ q.length ≤ 9) ∧ P.length ≤ 9 := by
  have mS := (partings_mem.mp h).1
  have os := splits_ok mS
  refine ⟨fun q hq => ⟨fun x hx => nm x ((split_sub mS hq).subset hx), ?_⟩, by have := os.le; omega⟩
  have := (split_sub mS hq).length_le
  omega
theorem sum_bounds {f : List Str → Int} {P : List (List Str)} (h0 : ∀ q, 0 ≤ f q) (h8 : ∀ q, f q ≤ 8) : 0 ≤ (P.map f).sum ∧ (P.map f).sum ≤ 8 * P.length := by
  induction P with
  | nil => simp
  | cons q P ih =>
    have a := h0 q
    have b := h8 q
    simp only [List.map_cons, List.sum_cons, List.length_cons]
    omega
theorem bound_small {f : List Str → Int} {ms : List Str} {P : List (List Str)} (h0 : ∀ q, 0 ≤ f q) (h8 : ∀ q, f q ≤ 8) (l2 : 2 ≤ P.length) (l9 : P.length ≤ 9) : -1000 ≤ boundG f ms P ∧ boundG f ms P ≤ 1000 := by
  obtain ⟨s0, s1⟩ := sum_bounds (P := P) h0 h8
  unfold boundG boundOf
  rw [List.length_map]
  have a := h0 ms
  have b := h8 ms
  generalize hk : ((P.length : Int) - 1) = k
  have k1 : 1 ≤ k := by omega
  have hz : -8 ≤ (P.map f).sum - f ms ∧ (P.map f).sum - f ms ≤ 72 := by omega
  generalize (P.map f).sum - f ms = z at hz ⊢
  have d1 : z / k ≤ 72 := by
    rcases Int.lt_or_le z 0 with h | h
    · have := Int.ediv_neg_of_neg_of_pos h (show 0 < k by omega)
      omega
    · exact Int.le_trans (Int.ediv_le_self k h) hz.2
  have d2 : -8 ≤ z / k := by
    rw [Int.le_ediv_iff_mul_le (by omega)]
    have : -8 * k ≤ -8 := by omega
    omega
  omega
end OC

set_option Elab.async false
set_option linter.all false
set_option maxRecDepth 100000
set_option maxHeartbeats 4000000
/-! the least number of calls: the greatest bound -/
namespace OC
open PySem PySem.Spec PyProof.Rows L2
/-- the greatest of some whole numbers -/
def topR : List Int → Int
  | [] => 0
  | x :: xs => xs.foldl (fun a y => if a < y then y else a) x
theorem topF : ∀ (xs : List Int) (x : Int), (xs.foldl (fun a y => if a < y then y else a) x = x ∨ xs.foldl (fun a y => if a < y then y else a) x ∈ xs) ∧ x ≤ xs.foldl (fun a y => if a < y then y else a) x ∧ ∀ y ∈ xs, y ≤ xs.foldl (fun a y => if a < y then y else a) x
  | [], x => ⟨.inl rfl, Int.le_refl _, fun y hy => (nomatch hy)⟩
  | z :: xs, x => by
    rw [List.foldl_cons]
    obtain ⟨h1, h2, h3⟩ := topF xs (if x < z then z else x)
    generalize xs.foldl (fun a y => if a < y then y else a) (if x < z then z else x) = m at h1 h2 h3
    by_cases c : x < z
    · rw [if_pos c] at h1 h2
      refine ⟨.inr ?_, by omega, fun y hy => ?_⟩
      · rcases h1 with h | h
        · rw [h]; exact List.mem_cons_self
        · exact List.mem_cons_of_mem _ h
      · rcases List.mem_cons.mp hy with rfl | hy
        · exact h2
        · exact h3 y hy
    · rw [if_neg c] at h1 h2
      refine ⟨?_, h2, fun y hy => ?_⟩
      · rcases h1 with h | h
        · exact .inl h
        · exact .inr (List.mem_cons_of_mem _ h)
      · rcases List.mem_cons.mp hy with rfl | hy
        · omega
        · exact h3 y hy
theorem top_mem {xs : List Int} (h : 0 < xs.length) : topR xs ∈ xs := by
  cases xs with
  | nil => exact absurd h (Nat.lt_irrefl _)
  | cons x xs =>
    rcases (topF xs x).1 with e | e
    · exact List.mem_cons.mpr (.inl e)
    · exact List.mem_cons_of_mem _ e
theorem top_le {xs : List Int} : ∀ y ∈ xs, y ≤ topR xs := by
  cases xs with
  | nil => exact fun y hy => (nomatch hy)
  | cons x xs =>
    intro y hy
    rcases List.mem_cons.mp hy with rfl | hy
    · exact (topF xs y).2.1
    · exact (topF xs x).2.2 y hy
theorem top_is {xs : List Int} {m : Int} (h : m ∈ xs) (hm : ∀ y ∈ xs, y ≤ m) : m = topR xs := by
  have h1 := top_le m h
  have h2 := hm _ (top_mem (List.length_pos_of_mem h))
  omega
/-- how few calls bring a group at one -/
def fewR (f : List Str → Int) (ms : List Str) : Int := topR ((partingsR ms).map (boundG f ms))
theorem BestP.few {f : List Str → Int} {ms : List Str} {P : List (List Str)} (a : BestP f ms P) : boundG f ms P = fewR f ms := by
  refine top_is (List.mem_map_of_mem a.mem) fun y hy => ?_
  obtain ⟨P', mP, rfl⟩ := List.mem_map.mp hy
  exact a.le mP
theorem few_le {f : List Str → Int} {ms : List Str} {P : List (List Str)} (h : P ∈ partingsR ms) : boundG f ms P ≤ fewR f ms := top_le _ (List.mem_map_of_mem h)
theorem few_small {f : List Str → Int} {ms : List Str} (h0 : ∀ q, 0 ≤ f q) (h8 : ∀ q, f q ≤ 8) (l2 : 2 ≤ ms.length) (l6 : ms.length ≤ 6) : -1000 ≤ fewR f ms ∧ fewR f ms ≤ 1000 := by
  have m := top_mem (xs := (partingsR ms).map (boundG f ms)) (by rw [List.length_map]; exact partings_pos l2)
  obtain ⟨P, mP, e⟩ := List.mem_map.mp m
  have := bound_small (f := f) (ms := ms) (P := P) h0 h8 (partings_mem.mp mP).2 (by have := (splits_ok (partings_mem.mp mP).1).le; omega)
  unfold fewR
  rw [← e]
  exact this
/-! ### one hand and the others -/
theorem splits_snoc (ns : List Str) (x : Str) : splitsR (ns ++ [x]) = (splitsR ns).flatMap (growR x) := by
  unfold splitsR
  rw [List.foldl_append]
  rfl
theorem grow_new (x : Str) (s : List (List Str)) : s ++ [[x]] ∈ growR x s := by
  unfold growR
  exact List.mem_append_right _ (List.mem_singleton.mpr rfl)
theorem grow_at (x : Str) {s : List (List Str)} {k : Nat} (h : k < s.length) : s.take k ++ ([s.getD k [] ++ [x]] ++ s.drop (k + 1)) ∈ growR x s := by
  unfold growR
  exact List.mem_append_left _ (List.mem_map.mpr ⟨k, List.mem_range.mpr h, rfl⟩)
theorem split_one : ∀ (r : List Str), r ≠ [] → [r.reverse] ∈ splitsR r.reverse
  | [], h => (h rfl).elim
  | x :: r, _ => by
    rw [List.reverse_cons, splits_snoc]
    by_cases e : r = []
    · subst e
      exact List.mem_flatMap.mpr ⟨[], by simp [splitsR], grow_new x []⟩
    · refine List.mem_flatMap.mpr ⟨_, split_one r e, ?_⟩
      have := grow_at x (s := [r.reverse]) (k := 0) (by simp)
      simpa using this
theorem split_whole {ns : List Str} (h : ns ≠ []) : [ns] ∈ splitsR ns := by
  have := split_one ns.reverse (by simpa using h)
  rwa [List.reverse_reverse] at this
/-- one name apart from the others -/
theorem split_apart : ∀ (r : List Str) (x : Str), r.Nodup → x ∈ r → r.length ≥ 2 → ∃ s ∈ splitsR r.reverse, (s = [[x], r.reverse.filter (fun y => !decide (y = x))] ∨ s = [r.reverse.filter (fun y => !decide (y = x)), [x]])
  | [], _, _, h, _ => (nomatch h)
  | y :: r, x, nd, hx, l => by
    obtain ⟨ny, nd'⟩ := List.nodup_cons.mp nd
    rw [List.reverse_cons, splits_snoc, List.filter_append]
    have r0 : r ≠ [] := fun z => by
      rw [z] at l
      exact absurd l (by simp)
    by_cases e : y = x
    · subst e
      have f1 : r.reverse.filter (fun z => !decide (z = y)) = r.reverse := List.filter_eq_self.mpr fun z hz => by
        have : z ≠ y := fun q => ny (by rw [← q]; simpa using hz)
        simp [this]
      refine ⟨_, List.mem_flatMap.mpr ⟨_, split_one r r0, grow_new y [r.reverse]⟩, .inr ?_⟩
      rw [f1]
      simp
    · have mx : x ∈ r := by
        rcases List.mem_cons.mp hx with h | h
        · exact (e h.symm).elim
        · exact h
      have fy : [y].filter (fun z => !decide (z = x)) = [y] := by simp [e]
      rw [fy]
      by_cases l2 : r.length ≥ 2
      · obtain ⟨s, ms, h⟩ := split_apart r x nd' mx l2
        rcases h with h | h
        · subst h
          have := grow_at y (s := [[x], r.reverse.filter (fun z => !decide (z = x))]) (k := 1) (by simp)
          exact ⟨_, List.mem_flatMap.mpr ⟨_, ms, this⟩, .inl (by simp)⟩
        · subst h
          have := grow_at y (s := [r.reverse.filter (fun z => !decide (z = x)), [x]]) (k := 0) (by simp)
          exact ⟨_, List.mem_flatMap.mpr ⟨_, ms, this⟩, .inr (by simp)⟩
      · have l1 : r.length = 1 := by
          have := List.length_pos_of_mem mx
          omega
        obtain ⟨z, hz⟩ := List.length_eq_one_iff.mp l1
        subst hz
        have : x = z := by simpa using mx
        subst this
        refine ⟨_, List.mem_flatMap.mpr ⟨_, split_one [x] (by simp), grow_new y [[x]]⟩, .inl ?_⟩
        simp
theorem part_apart {ns : List Str} {x : Str} (nd : ns.Nodup) (hx : x ∈ ns) (l : 2 ≤ ns.length) : ∃ P ∈ partingsR ns, (P = [[x], ns.filter (fun y => !decide (y = x))] ∨ P = [ns.filter (fun y => !decide (y = x)), [x]]) := by
  obtain ⟨s, ms, h⟩ := split_apart ns.reverse x ((List.reverse_perm ns).nodup_iff.mpr nd) (by simpa using hx) (by simpa using l)
  rw [List.reverse_reverse] at ms h
  refine ⟨s, partings_mem.mpr ⟨ms, ?_⟩, h⟩
  rcases h with h | h <;> rw [h] <;> simp
/-- a call apart: whoever is apart must be told what it lacks -/
theorem few_apart {f : List Str → Int} {ns : List Str} {x : Str} (nd : ns.Nodup) (hx : x ∈ ns) (l : 2 ≤ ns.length) (mono : f (ns.filter fun y => !decide (y = x)) ≤ f ns) : f ns - f [x] ≤ fewR f ns := by
  obtain ⟨P, mP, h⟩ := part_apart nd hx l
  have e : boundG f ns P = f ns - (f [x] + f (ns.filter fun y => !decide (y = x)) - f ns) := by
    unfold boundG boundOf
    rcases h with h | h
    · subst h
      simp
    · subst h
      simp
      omega
  have := few_le (f := f) mP
  rw [e] at this
  omega
/-- two hands: just one parting -/
theorem part_two {a b : Str} : partingsR [a, b] = [[[a], [b]]] := by
  have e : splitsR [a, b] = [[[a, b]], [[a], [b]]] := by
    unfold splitsR
    simp [growR, List.range_succ]
  unfold partingsR
  rw [e, show ([[[a, b]], [[a], [b]]] : List (List (List Str))).filter (fun s => decide (s.length > 1)) = [[[a], [b]]] from rfl]
  exact List.mergeSort_singleton _
theorem few_two {f : List Str → Int} {a b : Str} : fewR f [a, b] = 2 * f [a, b] - f [a] - f [b] := by
  unfold fewR
  rw [part_two]
  simp [topR, boundG, boundOf]
  omega
end OC

set_option Elab.async false
set_option linter.all false
set_option maxRecDepth 100000
set_option maxHeartbeats 4000000
/-! what is wanted from each part of a group -/
namespace OC
open PySem PySem.Spec PyProof.Rows L2 PySem.W
/-! ### lists that rise -/
theorem toks_strs : ∀ {q r : List Str}, keyToksAll (q.map PyData.str) = keyToksAll (r.map PyData.str) → q = r
  | [], [], _ => rfl
  | [], _ :: _, h => by
    simp only [List.map_nil, List.map_cons, keyToksAll] at h
    injection h with h1 _
    injection h1 with h1
    cases h1
  | _ :: _, [], h => by
    simp only [List.map_nil, List.map_cons, keyToksAll] at h
    injection h with h1 _
    injection h1 with h1
    cases h1
  | x :: q, y :: r, h => by
    simp only [List.map_cons, keyToksAll, keyToks, List.cons_append, List.nil_append] at h
    injection h with _ h
    injection h with h1 h2
    injection h1 with h1
    have e : x = y := by
      obtain ⟨a⟩ := x
      obtain ⟨b⟩ := y
      have h1 : a.toList = b.toList := h1
      rw [Array.toList_inj.mp h1]
    rw [e, toks_strs h2]
theorem le_anti {q r : List Str} (h1 : dataLe false txD q r = true) (h2 : dataLe false txD r q = true) : q = r := by
  rw [dataLe_eq] at h1 h2
  have a : dataLt (txD r) (txD q) = false := by simpa using h1
  have b : dataLt (txD q) (txD r) = false := by simpa using h2
  have e := lex_total _ _ b a
  unfold txD at e
  simp only [keyToks] at e
  exact toks_strs e
theorem rise_unique {α : Type} {le : α → α → Bool} (anti : ∀ a b, le a b = true → le b a = true → a = b) : ∀ {l m : List α}, l.Perm m → l.Pairwise (fun a b => le a b = true) → m.Pairwise (fun a b => le a b = true) → l = m
  | [], m, h, _, _ => (List.perm_nil.mp h.symm).symm ▸ rfl
  | a :: l, [], h, _, _ => absurd h.length_eq (by simp)
  | a :: l, b :: m, h, p, q => by
    obtain ⟨p1, p2⟩ := List.pairwise_cons.mp p
    obtain ⟨q1, q2⟩ := List.pairwise_cons.mp q
    have e : a = b := by
      have ma : a ∈ b :: m := h.mem_iff.mp List.mem_cons_self
      have mb : b ∈ a :: l := h.mem_iff.mpr List.mem_cons_self
      rcases List.mem_cons.mp ma with h1 | h1
      · exact h1
      · rcases List.mem_cons.mp mb with h2 | h2
        · exact h2.symm
        · exact anti a b (p1 b h2) (q1 a h1)
    subst e
    rw [rise_unique anti (List.Perm.cons_inv h) p2 q2]
theorem leT : TotalLe (dataLe false txD) := sortLe_total (listOrd itemOrd) false fun b => keyToks (txD b)
/-! ### the lesser parts -/
/-- all parts but none and the whole group, rising -/
def lesserR (ms : List Str) : List (List Str) := ((setsR ms).filter fun q => decide (0 < q.length) && decide (q.length < ms.length)).mergeSort (dataLe false txD)
theorem lesser_mem {ms q : List Str} (h : q ∈ lesserR ms) : q ∈ setsR ms ∧ 0 < q.length ∧ q.length < ms.length := by
  unfold lesserR at h
  have h := (List.mergeSort_perm _ _).mem_iff.mp h
  obtain ⟨h1, h2⟩ := List.mem_filter.mp h
  simp only [Bool.and_eq_true, decide_eq_true_eq] at h2
  exact ⟨h1, h2⟩
theorem setsF_sub : ∀ (ns : List Str) (acc : List (List Str)) (A : List Str), (∀ q ∈ acc, q.Sublist A) → ∀ q ∈ ns.foldl (fun acc x => acc ++ acc.map (· ++ [x])) acc, q.Sublist (A ++ ns)
  | [], acc, A, h, q, hq => by
    rw [List.append_nil]
    exact h q hq
  | x :: ns, acc, A, h, q, hq => by
    have := setsF_sub ns (acc ++ acc.map (· ++ [x])) (A ++ [x]) (fun r hr => by
      rcases List.mem_append.mp hr with hr | hr
      · exact (h r hr).trans (List.sublist_append_left _ _)
      · obtain ⟨s, ms, rfl⟩ := List.mem_map.mp hr
        exact (h s ms).append (List.Sublist.refl _)) q hq
    rwa [List.append_assoc] at this
theorem sets_subl {ns q : List Str} (h : q ∈ setsR ns) : q.Sublist ns := by
  have := setsF_sub ns [[]] [] (fun q hq => by
    rw [List.mem_singleton.mp hq]
    exact List.Sublist.refl _) q h
  rwa [List.nil_append] at this
/-- those of a group that are not in a part -/
def restG (ns ps : List Str) : List Str := ns.filter fun x => !decide (x ∈ ps)
theorem rest_nil {ms q : List Str} (nd : ms.Nodup) (h : q.Sublist ms) : restG ms q = [] ↔ ¬ q.length < ms.length := by
  constructor
  · intro e lt
    have all : ∀ x ∈ ms, x ∈ q := fun x hx => by
      apply Classical.byContradiction
      intro nx
      have : x ∈ restG ms q := List.mem_filter.mpr ⟨hx, by simp [nx]⟩
      rw [e] at this
      cases this
    have := (List.Nodup.length_le_of_subset nd) all
    omega
  · intro nl
    have e : q = ms := h.eq_of_length_le (by omega)
    subst e
    unfold restG
    rw [List.filter_eq_nil_iff]
    intro x hx
    simp [hx]
theorem lesser_eq {ms : List Str} (nd : ms.Nodup) : lesserR ms = (((setsR ms).mergeSort (dataLe false txD)).drop 1).filter fun q => decide (restG ms q ≠ []) := by
  have rise := sort_pairwise leT (setsR ms)
  have pm := List.mergeSort_perm (setsR ms) (dataLe false txD)
  generalize hs : (setsR ms).mergeSort (dataLe false txD) = ss at rise pm
  -- the first is none of the group
  obtain ⟨r, er⟩ : ∃ r, ss = [] :: r := by
    cases ss with
    | nil =>
      have := pm.mem_iff.mpr (sets_nil ms)
      cases this
    | cons a r =>
      have m0 : [] ∈ a :: r := pm.mem_iff.mpr (sets_nil ms)
      rcases List.mem_cons.mp m0 with e | e
      · exact ⟨r, by rw [← e]⟩
      · have h1 := (List.pairwise_cons.mp rise).1 [] e
        have h2 : dataLe false txD [] a = true := by
          rw [dataLe_eq]
          simp only [cond_false, Bool.not_eq_true']
          unfold txD
          rw [dataLt_tuple]
          cases a with
          | nil => exact lex_irrefl _
          | cons y t =>
            simp only [List.map_nil, List.map_cons, keyToksAll]
            rw [lex_diff (O := itemOrd) (by simp)]
            rfl
        exact ⟨r, by rw [le_anti h1 h2]⟩
  subst er
  have nds : ([] :: r : List (List Str)).Nodup := pm.nodup_iff.mpr (sets_nodup nd)
  obtain ⟨n0, ndr⟩ := List.nodup_cons.mp nds
  have e1 : (([] :: r : List (List Str)).drop 1).filter (fun q => decide (restG ms q ≠ [])) = r.filter fun q => decide (0 < q.length) && decide (q.length < ms.length) := by
    show r.filter _ = _
    refine List.filter_congr fun q hq => ?_
    have sub := sets_subl (pm.mem_iff.mp (List.mem_cons_of_mem _ hq))
    have h1 := rest_nil nd sub
    have q0 : 0 < q.length := by
      cases q with
      | nil => exact (n0 hq).elim
      | cons _ _ => simp
    by_cases lt : q.length < ms.length
    · have : restG ms q ≠ [] := fun z => (h1.mp z) lt
      simp [this, lt, q0]
    · have : restG ms q = [] := h1.mpr lt
      simp [this, lt]
  rw [e1]
  unfold lesserR
  refine rise_unique (fun a b => le_anti) ?_ (sort_pairwise leT _) (((List.pairwise_cons.mp rise).2).filter _)
  refine (List.mergeSort_perm _ _).trans ?_
  have := (pm.symm.filter fun q : List Str => decide (0 < q.length) && decide (q.length < ms.length))
  refine this.trans ?_
  rw [List.filter_cons_of_neg (by simp)]
/-- pairs (part, what must be heard from it) -/
def wantsR (f : List Str → Int) (ms : List Str) : List (List Str × Int) := (lesserR ms).map fun q => (q, f ms - f (restG ms q))
/-- what the numbers of a part come to -/
def comeR (ms : List Str) (ns : List Int) (q : List Str) : Int := (((ms.zip ns).filter fun x => decide (x.1 ∈ q)).map Prod.snd).sum
/-- the first part whose numbers come to less than is wanted -/
def firstW (ms : List Str) (ns : List Int) : List (List Str × Int) → Option (List Str)
  | [] => none
  | x :: xs => if comeR ms ns x.1 - x.2 < 0 then some x.1 else firstW ms ns xs
theorem firstW_mem {ms : List Str} {ns : List Int} {q : List Str} : ∀ {xs : List (List Str × Int)}, firstW ms ns xs = some q → ∃ x ∈ xs, x.1 = q
  | [], h => by cases h
  | x :: xs, h => by
    unfold firstW at h
    split at h
    · exact ⟨x, List.mem_cons_self, Option.some.inj h⟩
    · obtain ⟨y, my, e⟩ := firstW_mem h
      exact ⟨y, List.mem_cons_of_mem _ my, e⟩
/-! ### lists of pairs (part, number) in the heap -/
inductive WAll (H : Hp) : List V → List (List Str × Int) → Prop
  | nil : WAll H [] []
  | cons {t b : Addr} {x : List Str × Int} {ws : List V} {xs : List (List Str × Int)} : H t = some (.tup [.ref b, .int x.2]) → H b = some (.tup (x.1.map V.str)) → WAll H ws xs → WAll H (.ref t :: ws) (x :: xs)
section
variable {H H' : Hp}
theorem WAll.same (s : Same H H') : ∀ {ws : List V} {xs : List (List Str × Int)}, WAll H ws xs → WAll H' ws xs
  | _, _, .nil => .nil
  | _, _, .cons h1 h2 t => .cons (s _ _ h1) (s _ _ h2) (t.same s)
theorem WAll.tk (s : ∀ a xs, H a = some (.tup xs) → H' a = some (.tup xs)) : ∀ {ws : List V} {xs : List (List Str × Int)}, WAll H ws xs → WAll H' ws xs
  | _, _, .nil => .nil
  | _, _, .cons h1 h2 t => .cons (s _ _ h1) (s _ _ h2) (t.tk s)
theorem WAll.app : ∀ {ws us : List V} {xs ys : List (List Str × Int)}, WAll H ws xs → WAll H us ys → WAll H (ws ++ us) (xs ++ ys)
  | _, _, _, _, .nil, h => h
  | _, _, _, _, .cons h1 h2 t, g => .cons h1 h2 (t.app g)
theorem WAll.len : ∀ {ws : List V} {xs : List (List Str × Int)}, WAll H ws xs → ws.length = xs.length
  | _, _, .nil => rfl
  | _, _, .cons _ _ t => by rw [List.length_cons, List.length_cons, t.len]
theorem WAll.get : ∀ {ws : List V} {xs : List (List Str × Int)} {i : Nat} {v : V}, WAll H ws xs → ws[i]? = some v → ∃ t b x, v = .ref t ∧ xs[i]? = some x ∧ H t = some (.tup [.ref b, .int x.2]) ∧ H b = some (.tup (x.1.map V.str))
  | _, _, _, _, .nil, e => by simp at e
  | _, _, 0, _, .cons (t := t) (b := b) (x := x) h1 h2 _, e => by
    cases e
    exact ⟨t, b, x, rfl, rfl, h1, h2⟩
  | _, _, i + 1, v, .cons _ _ t, e => t.get (i := i) (v := v) e
theorem WAll.mut {D : Addr} {zs ys : List V} (e : H D = some (.lst zs)) {ws : List V} {xs : List (List Str × Int)} (h : WAll H ws xs) : WAll (upd H D (.lst ys)) ws xs := h.tk fun a u q => by
  rw [upd_ne (fun z => by
    rw [z, e] at q
    cases q)]
  exact q
end
end OC

set_option Elab.async false
set_option linter.all false
set_option maxRecDepth 100000
set_option maxHeartbeats 4000000
/-! numbers for each of a group: all that come to a total, the greatest first -/
namespace OC
open PySem PySem.Spec PyProof.Rows L2 PySem.W
/-- hi, hi - 1, .. lo -/
def downR (hi lo : Int) : List Int := (List.range (hi - lo + 1).toNat).map fun (i : Nat) => hi - (i : Int)
theorem down_mem {hi lo k : Int} : k ∈ downR hi lo ↔ lo ≤ k ∧ k ≤ hi := by
  unfold downR
  rw [List.mem_map]
  constructor
  · rintro ⟨i, mi, rfl⟩
    have := List.mem_range.mp mi
    omega
  · rintro ⟨h1, h2⟩
    exact ⟨(hi - k).toNat, List.mem_range.mpr (by omega), by omega⟩
theorem down_lt (hi lo : Int) : (downR hi lo).Pairwise (fun a b => b < a) := by
  unfold downR
  rw [List.pairwise_map]
  exact List.pairwise_lt_range.imp fun h => by omega
theorem down_nodup (hi lo : Int) : (downR hi lo).Nodup := (down_lt hi lo).imp fun h => by omega
theorem down_filter {M N a b : Int} (h1 : N ≤ b) (h2 : a ≤ M) : (downR M N).filter (fun k => decide (b ≤ k ∧ k ≤ a)) = downR a b := by
  refine rise_unique (le := fun x y => decide (y ≤ x)) (fun x y hx hy => ?_) ?_ ?_ ?_
  · have hx := of_decide_eq_true hx
    have hy := of_decide_eq_true hy
    omega
  · refine (List.perm_ext_iff_of_nodup ((down_nodup M N).filter _) (down_nodup a b)).mpr fun k => ?_
    rw [List.mem_filter, down_mem, down_mem, decide_eq_true_iff]
    omega
  · exact ((down_lt M N).filter _).imp fun h => decide_eq_true (by omega)
  · exact (down_lt a b).imp fun h => decide_eq_true (by omega)
theorem flat_filter {α : Type} (g : Int → List α) (p : Int → Bool) : ∀ l : List Int, (l.filter p).flatMap g = l.flatMap fun k => if p k = true then g k else []
  | [] => rfl
  | x :: l => by
    rw [List.filter_cons, List.flatMap_cons]
    by_cases h : p x = true
    · rw [if_pos h, if_pos h, List.flatMap_cons, flat_filter g p l]
    · rw [if_neg h, if_neg h, List.nil_append, flat_filter g p l]
theorem down_flat {α : Type} {g : Int → List α} {hi lo t : Int} (lo0 : 0 ≤ lo) (hg : ∀ k, t < k → g k = []) : (downR hi lo).flatMap g = (downR t 0).flatMap fun k => if lo ≤ k ∧ k ≤ hi then g k else [] := by
  have e1 := down_filter (M := max hi t) (N := 0) (a := hi) (b := lo) lo0 (by omega)
  have e2 := down_filter (M := max hi t) (N := 0) (a := t) (b := 0) (Int.le_refl 0) (by omega)
  rw [← e1, ← e2, flat_filter, flat_filter]
  congr 1
  funext k
  simp only [decide_eq_true_eq]
  by_cases h : lo ≤ k ∧ k ≤ hi
  · by_cases h2 : 0 ≤ k ∧ k ≤ t
    · rw [if_pos h, if_pos h2]
    · rw [if_pos h, if_neg h2, hg k (by omega)]
  · rw [if_neg h]
    by_cases h2 : 0 ≤ k ∧ k ≤ t
    · rw [if_pos h2]
    · rw [if_neg h2]
/-- many more than one numbers that come to a total -/
def tupR : Nat → Int → List (List Int)
  | 0, t => [[t]]
  | m + 1, t => (downR t 0).flatMap fun k => (tupR m (t - k)).map (k :: ·)
/-- those within limits -/
def fallR : List (Int × Int) → Int → List (List Int)
  | [], t => if t = 0 then [[]] else []
  | l :: ls, t => (downR l.2 l.1).flatMap fun k => (fallR ls (t - k)).map (k :: ·)
def inL : List (Int × Int) → List Int → Bool
  | [], [] => true
  | l :: ls, k :: x => decide (l.1 ≤ k ∧ k ≤ l.2) && inL ls x
  | _, _ => false
theorem fall_neg : ∀ {ls : List (Int × Int)} {t : Int}, (∀ l ∈ ls, 0 ≤ l.1) → t < 0 → fallR ls t = []
  | [], t, _, h => by
    unfold fallR
    rw [if_neg (by omega)]
  | l :: ls, t, h, ht => by
    unfold fallR
    rw [List.flatMap_eq_nil_iff]
    intro k mk
    have mk := down_mem.mp mk
    have l0 := h l List.mem_cons_self
    rw [fall_neg (fun x hx => h x (List.mem_cons_of_mem _ hx)) (by omega)]
    rfl
theorem flatI_congr {α : Type} {f g : Int → List α} : ∀ {l : List Int}, (∀ k ∈ l, f k = g k) → l.flatMap f = l.flatMap g
  | [], _ => rfl
  | x :: l, h => by rw [List.flatMap_cons, List.flatMap_cons, h x List.mem_cons_self, flatI_congr fun k hk => h k (List.mem_cons_of_mem _ hk)]
theorem fall_filter : ∀ {ls : List (Int × Int)} {m : Nat} {t : Int}, ls.length = m + 1 → (∀ l ∈ ls, 0 ≤ l.1) → 0 ≤ t → fallR ls t = (tupR m t).filter (inL ls)
  | [l], 0, t, _, h, ht => by
    have l0 := h l List.mem_cons_self
    have e : fallR [l] t = (downR l.2 l.1).flatMap fun k => if k = t then [[t]] else [] := by
      show (downR l.2 l.1).flatMap (fun k => (fallR [] (t - k)).map (k :: ·)) = _
      congr 1
      funext k
      unfold fallR
      by_cases hk : k = t
      · rw [if_pos (by omega), if_pos hk, hk]
        rfl
      · rw [if_neg (by omega), if_neg hk]
        rfl
    rw [e]
    show _ = [[t]].filter (inL [l])
    by_cases hl : l.1 ≤ t ∧ t ≤ l.2
    · have e2 : inL [l] [t] = true := by
        unfold inL
        rw [decide_eq_true hl]
        rfl
      rw [List.filter_cons_of_pos e2, List.filter_nil]
      have e3 : (downR l.2 l.1).flatMap (fun k => if k = t then [[t]] else []) = ((downR l.2 l.1).filter fun k => decide (t ≤ k ∧ k ≤ t)).flatMap fun _ => [[t]] := by
        rw [flat_filter]
        congr 1
        funext k
        simp only [decide_eq_true_eq]
        by_cases hk : k = t
        · rw [if_pos hk, if_pos (by omega)]
        · rw [if_neg hk, if_neg (by omega)]
      rw [e3, down_filter hl.1 hl.2]
      unfold downR
      rw [show (t - t + 1).toNat = 1 by omega]
      rfl
    · have e2 : ¬ inL [l] [t] = true := by
        unfold inL
        rw [decide_eq_false hl]
        decide
      rw [List.filter_cons_of_neg e2, List.filter_nil, List.flatMap_eq_nil_iff]
      intro k mk
      have mk := down_mem.mp mk
      rw [if_neg (by omega)]
  | l :: l2 :: ls, m + 1, t, hl, h, ht => by
    have l0 := h l List.mem_cons_self
    have h' : ∀ x ∈ l2 :: ls, 0 ≤ x.1 := fun x hx => h x (List.mem_cons_of_mem _ hx)
    have hl' : (l2 :: ls).length = m + 1 := by
      rw [List.length_cons] at hl
      omega
    show (downR l.2 l.1).flatMap (fun k => (fallR (l2 :: ls) (t - k)).map (k :: ·)) = ((downR t 0).flatMap fun k => (tupR m (t - k)).map (k :: ·)).filter (inL (l :: l2 :: ls))
    rw [down_flat (t := t) l0 (fun k hk => by rw [fall_neg h' (by omega)]; rfl), List.filter_flatMap]
    refine flatI_congr fun k mk => ?_
    have mk := down_mem.mp mk
    rw [List.filter_map]
    have ec : (inL (l :: l2 :: ls)) ∘ (fun x => k :: x) = fun x => decide (l.1 ≤ k ∧ k ≤ l.2) && inL (l2 :: ls) x := by
      funext x
      rfl
    rw [ec]
    by_cases hk : l.1 ≤ k ∧ k ≤ l.2
    · rw [if_pos hk, fall_filter hl' h' (by omega), decide_eq_true hk]
      simp only [Bool.true_and]
    · rw [if_neg hk, decide_eq_false hk]
      simp
theorem flatI_len {α : Type} {g : Int → List α} {B : Nat} : ∀ {l : List Int}, (∀ k ∈ l, (g k).length ≤ B) → (l.flatMap g).length ≤ l.length * B
  | [], _ => by simp
  | x :: l, h => by
    have h1 := h x List.mem_cons_self
    have h2 := flatI_len (fun k hk => h k (List.mem_cons_of_mem x hk))
    rw [List.flatMap_cons, List.length_append, List.length_cons, Nat.succ_mul]
    omega
theorem down_len {hi lo : Int} : (downR hi lo).length = (hi - lo + 1).toNat := by
  unfold downR
  rw [List.length_map, List.length_range]
theorem tup_len : ∀ {m : Nat} {t : Int}, t ≤ 16 → (tupR m t).length ≤ 17 ^ m
  | 0, _, _ => Nat.le_refl 1
  | m + 1, t, ht => by
    unfold tupR
    refine Nat.le_trans (flatI_len (B := 17 ^ m) fun k mk => ?_) ?_
    · have mk := down_mem.mp mk
      rw [List.length_map]
      exact tup_len (by omega)
    · rw [down_len, Nat.pow_succ, Nat.mul_comm]
      exact Nat.mul_le_mul_left _ (by omega)
theorem tup_mem : ∀ {m : Nat} {t : Int} {x : List Int}, 0 ≤ t → x ∈ tupR m t → x.length = m + 1 ∧ x.sum = t ∧ ∀ k ∈ x, 0 ≤ k ∧ k ≤ t
  | 0, t, x, ht, h => by
    rw [List.mem_singleton.mp h]
    exact ⟨rfl, by simp, fun k hk => by rw [List.mem_singleton.mp hk]; omega⟩
  | m + 1, t, x, ht, h => by
    unfold tupR at h
    obtain ⟨k, mk, hx⟩ := List.mem_flatMap.mp h
    obtain ⟨y, my, rfl⟩ := List.mem_map.mp hx
    have mk := down_mem.mp mk
    obtain ⟨a, b, c⟩ := tup_mem (by omega) my
    refine ⟨by rw [List.length_cons, a], by rw [List.sum_cons, b]; omega, fun z hz => ?_⟩
    rcases List.mem_cons.mp hz with rfl | hz
    · exact mk
    · have := c z hz
      omega
theorem fall_len {ls : List (Int × Int)} {n : Nat} {t : Int} (hl : ls.length ≤ n + 1) (h : ∀ l ∈ ls, 0 ≤ l.1) (ht : t ≤ 16) : (fallR ls t).length ≤ 17 ^ n := by
  have one : 1 ≤ 17 ^ n := Nat.one_le_pow _ _ (by decide)
  cases ls with
  | nil =>
    unfold fallR
    by_cases e : t = 0
    · rw [if_pos e]
      exact one
    · rw [if_neg e]
      exact Nat.zero_le _
  | cons l ls =>
    by_cases t0 : t < 0
    · rw [fall_neg h t0]
      exact Nat.zero_le _
    · rw [fall_filter (m := ls.length) rfl h (by omega)]
      refine Nat.le_trans (List.length_filter_le _ _) (Nat.le_trans (tup_len ht) (Nat.pow_le_pow_right (by decide) ?_))
      rw [List.length_cons] at hl
      omega
/-! ### the first that leaves none wanting -/
theorem find_filter {α : Type} {P q : α → Bool} : ∀ {l : List α}, (∀ x ∈ l, P x = true → q x = true) → (l.filter q).find? P = l.find? P
  | [], _ => rfl
  | x :: l, h => by
    have ih := find_filter (l := l) fun y hy => h y (List.mem_cons_of_mem _ hy)
    rw [List.filter_cons]
    by_cases hx : P x = true
    · rw [if_pos (h x List.mem_cons_self hx), List.find?_cons_of_pos hx, List.find?_cons_of_pos hx]
    · by_cases hq : q x = true
      · rw [if_pos hq, List.find?_cons_of_neg hx, List.find?_cons_of_neg hx, ih]
      · rw [if_neg hq, List.find?_cons_of_neg hx, ih]
def limR (f : List Str → Int) (t : Int) (ms : List Str) (y : Str) : Int × Int := (f ms - f (restG ms [y]), t - (f ms - f (restG ms (restG ms [y]))))
theorem firstW_none {ms : List Str} {ns : List Int} : ∀ {xs : List (List Str × Int)}, firstW ms ns xs = none → ∀ x ∈ xs, x.2 ≤ comeR ms ns x.1
  | y :: xs, h, x, hx => by
    unfold firstW at h
    split at h
    · cases h
    · rcases List.mem_cons.mp hx with rfl | hx
      · omega
      · exact firstW_none h x hx
theorem come_split {ms q : List Str} : ∀ {ys : List Str} {ns : List Int}, ys.length = ns.length → (∀ y ∈ ys, y ∈ ms) → comeR ys ns q + comeR ys ns (restG ms q) = ns.sum
  | [], [], _, _ => rfl
  | y :: ys, k :: ns, h, hm => by
    have ih := come_split (ms := ms) (q := q) (ys := ys) (ns := ns) (by simpa using h) fun z hz => hm z (List.mem_cons_of_mem _ hz)
    have my := hm y List.mem_cons_self
    unfold comeR at ih ⊢
    rw [List.zip_cons_cons, List.filter_cons, List.filter_cons, List.sum_cons]
    have e : (y ∈ restG ms q) ↔ ¬ y ∈ q := by
      unfold restG
      rw [List.mem_filter]
      simp [my]
    by_cases hy : y ∈ q
    · simp only [hy, e, not_true, decide_true, decide_false, if_true, Bool.false_eq_true, if_false, List.map_cons, List.sum_cons]
      omega
    · simp only [hy, e, not_false_iff, decide_true, decide_false, if_true, Bool.false_eq_true, if_false, List.map_cons, List.sum_cons]
      omega
theorem come_out {q : List Str} : ∀ {ys : List Str} {ns : List Int}, (∀ y ∈ ys, ¬ y ∈ q) → comeR ys ns q = 0
  | [], ns, _ => by
    unfold comeR
    simp
  | y :: ys, [], _ => by
    unfold comeR
    simp
  | y :: ys, k :: ns, h => by
    have ih := come_out (ys := ys) (ns := ns) fun z hz => h z (List.mem_cons_of_mem _ hz)
    unfold comeR at ih ⊢
    rw [List.zip_cons_cons, List.filter_cons]
    have := h y List.mem_cons_self
    simp only [this, decide_false, Bool.false_eq_true, if_false]
    exact ih
theorem come_one : ∀ {ys : List Str} {ns : List Int} {y : Str} {k : Int}, ys.Nodup → (y, k) ∈ ys.zip ns → comeR ys ns [y] = k
  | x :: ys, j :: ns, y, k, nd, h => by
    obtain ⟨n1, n2⟩ := List.nodup_cons.mp nd
    rw [List.zip_cons_cons] at h
    rcases List.mem_cons.mp h with e | h
    · cases e
      have o := come_out (q := [x]) (ys := ys) (ns := ns) fun z hz hy => n1 (by rw [← List.mem_singleton.mp hy]; exact hz)
      unfold comeR at o ⊢
      rw [List.zip_cons_cons, List.filter_cons]
      simp only [List.mem_singleton, decide_true, if_true, List.map_cons, List.sum_cons]
      simp only [List.mem_singleton] at o
      omega
    · have my := (List.of_mem_zip h).1
      have ne : ¬ x = y := fun z => n1 (by rw [z]; exact my)
      have ih := come_one n2 h
      unfold comeR at ih ⊢
      rw [List.zip_cons_cons, List.filter_cons]
      simp only [List.mem_singleton, ne, decide_false, Bool.false_eq_true, if_false]
      simp only [List.mem_singleton] at ih
      exact ih
  | [], _, _, _, _, h => by simp at h
  | _ :: _, [], _, _, _, h => by simp at h
theorem inL_of {L : Str → Int × Int} : ∀ {ys : List Str} {ns : List Int}, ys.length = ns.length → (∀ z ∈ ys.zip ns, (L z.1).1 ≤ z.2 ∧ z.2 ≤ (L z.1).2) → inL (ys.map L) ns = true
  | [], [], _, _ => rfl
  | y :: ys, k :: ns, h, hz => by
    rw [List.map_cons]
    unfold inL
    rw [decide_eq_true (hz (y, k) (by rw [List.zip_cons_cons]; exact List.mem_cons_self)), Bool.true_and]
    exact inL_of (by simpa using h) fun z m => hz z (by rw [List.zip_cons_cons]; exact List.mem_cons_of_mem _ m)
theorem lesser_rest {ms : List Str} {y : Str} (nd : ms.Nodup) (h : y ∈ ms) (l2 : 2 ≤ ms.length) : restG ms [y] ∈ lesserR ms := by
  unfold lesserR
  refine (List.mergeSort_perm _ _).mem_iff.mpr (List.mem_filter.mpr ⟨part_in List.filter_sublist, ?_⟩)
  have ln : (restG ms [y]).length + 1 = ms.length := by
    have e : restG ms [y] = ms.erase y := by
      rw [nd.erase_eq_filter]
      unfold restG
      refine List.filter_congr fun z _ => ?_
      simp [bne, BEq.beq]
    rw [e, List.length_erase_of_mem h]
    omega
  simp only [Bool.and_eq_true, decide_eq_true_eq]
  omega
theorem lesser_single {ms : List Str} {x : Str} (h : x ∈ ms) (l2 : 2 ≤ ms.length) : [x] ∈ lesserR ms := by
  unfold lesserR
  refine (List.mergeSort_perm _ _).mem_iff.mpr (List.mem_filter.mpr ⟨part_in (List.singleton_sublist.mpr h), ?_⟩)
  simp only [List.length_cons, List.length_nil, Bool.and_eq_true, decide_eq_true_eq]
  omega
/-- the greatest numbers of a total that leave none wanting -/
def shareR (f : List Str → Int) (ms : List Str) (t : Int) : Option (List Int) := (tupR (ms.length - 1) t).find? fun x => decide (firstW ms x (wantsR f ms) = none)
theorem share_fall {f : List Str → Int} {ms : List Str} {t : Int} (nd : ms.Nodup) (l2 : 2 ≤ ms.length) (mono : ∀ q, f (restG ms q) ≤ f ms) (t0 : 0 ≤ t) : shareR f ms t = (fallR (ms.map (limR f t ms)) t).find? fun x => decide (firstW ms x (wantsR f ms) = none) := by
  have hl : (ms.map (limR f t ms)).length = (ms.length - 1) + 1 := by
    rw [List.length_map]
    omega
  have h0 : ∀ l ∈ ms.map (limR f t ms), 0 ≤ l.1 := fun l hm => by
    obtain ⟨y, _, rfl⟩ := List.mem_map.mp hm
    have := mono [y]
    show 0 ≤ f ms - f (restG ms [y])
    omega
  rw [fall_filter hl h0 t0]
  unfold shareR
  refine (find_filter fun x mx hx => ?_).symm
  have hx := of_decide_eq_true hx
  obtain ⟨a, b, c⟩ := tup_mem t0 mx
  have lx : ms.length = x.length := by omega
  refine inL_of lx fun z hz => ?_
  obtain ⟨y, k⟩ := z
  have my := (List.of_mem_zip hz).1
  have w1 := firstW_none hx ([y], f ms - f (restG ms [y])) (List.mem_map.mpr ⟨_, lesser_single my l2, rfl⟩)
  have w2 := firstW_none hx (restG ms [y], f ms - f (restG ms (restG ms [y]))) (List.mem_map.mpr ⟨_, lesser_rest nd my l2, rfl⟩)
  have e1 := come_one nd hz
  have e2 := come_split (ms := ms) (q := [y]) lx fun _ h => h
  unfold limR
  dsimp only at w1 w2 ⊢
  omega
theorem sum_nonneg {xs : List Int} (h : ∀ x ∈ xs, 0 ≤ x) : 0 ≤ xs.sum := by
  induction xs with
  | nil => exact Int.le_refl 0
  | cons x xs ih =>
    rw [List.sum_cons]
    have := ih fun y hy => h y (List.mem_cons_of_mem _ hy)
    have := h x List.mem_cons_self
    omega
theorem few_range {f : List Str → Int} {ms : List Str} (h0 : ∀ q, 0 ≤ f q) (h8 : ∀ q, f q ≤ 8) (nd : ms.Nodup) (l2 : 2 ≤ ms.length) (mono : ∀ q, f (restG ms q) ≤ f ms) (mono1 : ∀ x ∈ ms, f [x] ≤ f ms) : 0 ≤ fewR f ms ∧ fewR f ms ≤ 16 := by
  constructor
  · obtain ⟨x, hx⟩ : ∃ x, x ∈ ms := by
      cases ms with
      | nil => exact absurd l2 (by decide)
      | cons x r => exact ⟨x, List.mem_cons_self⟩
    have e : ms.filter (fun y => !decide (y = x)) = restG ms [x] := by
      unfold restG
      refine List.filter_congr fun y _ => ?_
      simp
    have a := few_apart nd hx l2 (f := f) (by rw [e]; exact mono [x])
    have b := mono1 x hx
    omega
  · have m := top_mem (xs := (partingsR ms).map (boundG f ms)) (by rw [List.length_map]; exact partings_pos l2)
    obtain ⟨P, mP, e⟩ := List.mem_map.mp m
    unfold fewR
    rw [← e]
    unfold boundG boundOf
    have gt := (partings_mem.mp mP).2
    have s0 : 0 ≤ (P.map f).sum := sum_nonneg fun y hy => by
      obtain ⟨q, _, rfl⟩ := List.mem_map.mp hy
      exact h0 q
    have m8 := h8 ms
    rw [List.length_map]
    generalize (P.map f).sum = S at s0 ⊢
    have key : -8 ≤ (S - f ms) / ((P.length : Int) - 1) := by
      rw [Int.le_ediv_iff_mul_le (by omega)]
      have : (-8 : Int) * ((P.length : Int) - 1) ≤ -8 * 1 := by omega
      omega
    omega
end OC

set_option Elab.async false
set_option linter.all false
set_option maxRecDepth 100000
set_option maxHeartbeats 4000000
/-! numbers that come to the greatest bound of a parting and leave none wanting: there are some -/
namespace OC
open PySem PySem.Spec PyProof.Rows L2 PySem.W
/-- what x comes to over a set -/
def sumP (x : Str → Int) (ms : List Str) (S : Str → Bool) : Int := ((ms.filter S).map x).sum
section
variable {x x' : Str → Int} {ms ns : List Str} {S T : Str → Bool}
theorem sumP_mod (x : Str → Int) (S T : Str → Bool) : ∀ ms : List Str, sumP x ms (fun z => S z || T z) + sumP x ms (fun z => S z && T z) = sumP x ms S + sumP x ms T
  | [] => rfl
  | y :: ms => by
    have ih := sumP_mod x S T ms
    unfold sumP at ih ⊢
    simp only [List.filter_cons]
    cases hS : S y <;> cases hT : T y <;> simp only [Bool.or_self, Bool.and_self, Bool.or_true, Bool.true_or, Bool.or_false, Bool.false_or, Bool.and_true, Bool.true_and, Bool.and_false, Bool.false_and, if_true, Bool.false_eq_true, if_false, List.map_cons, List.sum_cons] <;> omega
theorem sumP_congr (h : ∀ z ∈ ms, S z = T z) : sumP x ms S = sumP x ms T := by
  unfold sumP
  rw [List.filter_congr h]
theorem sumP_x (h : ∀ z, S z = true → x z = x' z) : sumP x ms S = sumP x' ms S := by
  unfold sumP
  rw [List.map_congr_left fun z hz => h z (List.mem_filter.mp hz).2]
theorem sumP_one {y : Str} : ∀ {ms : List Str}, ms.Nodup → y ∈ ms → sumP x ms (fun z => decide (z = y)) = x y
  | w :: ms, nd, h => by
    obtain ⟨n1, n2⟩ := List.nodup_cons.mp nd
    unfold sumP
    rw [List.filter_cons]
    by_cases e : w = y
    · subst e
      have : ms.filter (fun z => decide (z = w)) = [] := List.filter_eq_nil_iff.mpr fun z hz => by
        have : ¬ z = w := fun e => n1 (by rw [← e]; exact hz)
        simp [this]
      rw [this]
      simp
    · have my : y ∈ ms := (List.mem_cons.mp h).resolve_left fun z => e z.symm
      have := sumP_one n2 my
      unfold sumP at this
      simp only [e, decide_false, Bool.false_eq_true, if_false]
      exact this
/-- what f must be: told by the members, and never more together -/
structure Subm (ms : List Str) (F : (Str → Bool) → Int) : Prop where
  cg : ∀ S T : Str → Bool, (∀ z ∈ ms, S z = T z) → F S = F T
  sub : ∀ S T : Str → Bool, F (fun z => S z || T z) + F (fun z => S z && T z) ≤ F S + F T
variable {F : (Str → Bool) → Int} {α : Int}
/-- no set of these has more than its bound -/
def Fea (F : (Str → Bool) → Int) (α : Int) (ms : List Str) (x : Str → Int) (ns : List Str) : Prop := ∀ S : Str → Bool, (∀ z, S z = true → z ∈ ns) → (∃ z, S z = true) → sumP x ms S ≤ F S - α
def Tgt (F : (Str → Bool) → Int) (α : Int) (ms : List Str) (x : Str → Int) (S : Str → Bool) : Prop := sumP x ms S = F S - α
theorem Tgt.union (hF : Subm ms F) (fe : Fea F α ms x ns) (h1 : Tgt F α ms x S) (h2 : Tgt F α ms x T) (sS : ∀ z, S z = true → z ∈ ns) (sT : ∀ z, T z = true → z ∈ ns) (me : ∃ z, S z = true ∧ T z = true) : Tgt F α ms x (fun z => S z || T z) := by
  obtain ⟨w, w1, w2⟩ := me
  have a := fe (fun z => S z || T z) (fun z hz => by
    rcases Bool.or_eq_true _ _ ▸ hz with h | h
    · exact sS z h
    · exact sT z h) ⟨w, by simp [w1]⟩
  have b := fe (fun z => S z && T z) (fun z hz => sS z (Bool.and_eq_true _ _ ▸ hz).1) ⟨w, by simp [w1, w2]⟩
  have m := sumP_mod x S T ms
  have s := hF.sub S T
  unfold Tgt at h1 h2 ⊢
  omega
theorem arg_min {β : Type} (g : β → Int) : ∀ {l : List β}, l ≠ [] → ∃ a ∈ l, ∀ b ∈ l, g a ≤ g b
  | [a], _ => ⟨a, List.mem_cons_self, fun b hb => by rw [List.mem_singleton.mp hb]; exact Int.le_refl _⟩
  | a :: b :: l, _ => by
    obtain ⟨m, hm, hl⟩ := arg_min g (l := b :: l) (by simp)
    by_cases h : g a ≤ g m
    · refine ⟨a, List.mem_cons_self, fun z hz => ?_⟩
      rcases List.mem_cons.mp hz with rfl | hz
      · exact Int.le_refl _
      · have := hl z hz
        omega
    · refine ⟨m, List.mem_cons_of_mem _ hm, fun z hz => ?_⟩
      rcases List.mem_cons.mp hz with rfl | hz
      · omega
      · exact hl z hz
theorem greedy (hF : Subm ms F) (ndm : ms.Nodup) : ∀ ns : List Str, ns.Nodup → (∀ z ∈ ns, z ∈ ms) → ∃ (x : Str → Int) (c : Str → Nat), Fea F α ms x ns ∧ ∀ y ∈ ns, Tgt F α ms x (fun z => decide (z ∈ ns) && (c z == c y))
  | [], _, _ => ⟨fun _ => 0, fun _ => 0, fun S h1 h2 => by
      obtain ⟨z, hz⟩ := h2
      exact absurd (h1 z hz) (by simp), fun y hy => (nomatch hy)⟩
  | y :: ns, nd, sub => by
    obtain ⟨n1, n2⟩ := List.nodup_cons.mp nd
    obtain ⟨x, c, fe, tg⟩ := greedy hF ndm ns n2 fun z hz => sub z (List.mem_cons_of_mem _ hz)
    have my : y ∈ ms := sub y List.mem_cons_self
    obtain ⟨q0, m0, least⟩ := arg_min (fun q : List Str => F (fun z => decide (z ∈ q) || decide (z = y)) - α - sumP x ms (fun z => decide (z ∈ q))) (l := setsR ns) (fun e => by
      have := sets_nil ns
      rw [e] at this
      cases this)
    have sub0 : ∀ z ∈ q0, z ∈ ns := (sets_subl m0).subset
    have y0 : ∀ q : List Str, (∀ z ∈ q, z ∈ ns) → y ∉ q := fun q h z => n1 (h y z)
    generalize hv : F (fun z => decide (z ∈ q0) || decide (z = y)) - α - sumP x ms (fun z => decide (z ∈ q0)) = v at least
    -- the new numbers
    have old : ∀ S : Str → Bool, (∀ z, S z = true → z ∈ ns) → sumP (fun z => if z = y then v else x z) ms S = sumP x ms S := fun S h => sumP_x fun z hz => by
      have : z ≠ y := fun e => n1 (by rw [← e]; exact h z hz)
      simp [this]
    have new : ∀ q : List Str, (∀ z ∈ q, z ∈ ns) → sumP (fun z => if z = y then v else x z) ms (fun z => decide (z ∈ q) || decide (z = y)) = v + sumP x ms (fun z => decide (z ∈ q)) := fun q h => by
      have m := sumP_mod (fun z => if z = y then v else x z) (fun z => decide (z ∈ q)) (fun z => decide (z = y)) ms
      have o := old (fun z => decide (z ∈ q)) fun z hz => h z (of_decide_eq_true hz)
      have s := sumP_one (x := fun z => if z = y then v else x z) ndm my
      have e : sumP (fun z => if z = y then v else x z) ms (fun z => decide (z ∈ q) && decide (z = y)) = 0 := by
        have : ms.filter (fun z => decide (z ∈ q) && decide (z = y)) = [] := List.filter_eq_nil_iff.mpr fun z _ => by
          by_cases hz : z = y
          · subst hz
            simp [y0 q h]
          · simp [hz]
        unfold sumP
        rw [this]
        rfl
      simp only [if_true] at s
      omega
    have fe' : Fea F α ms (fun z => if z = y then v else x z) (y :: ns) := fun S h1 h2 => by
      by_cases hy : S y = true
      · have hq : ∀ z ∈ ns.filter S, z ∈ ns := fun z hz => (List.mem_filter.mp hz).1
        have ea : ∀ z, S z = (decide (z ∈ ns.filter S) || decide (z = y)) := fun z => by
          by_cases hz : z = y
          · subst hz
            simp [hy]
          · cases hS : S z with
            | true =>
              have := (List.mem_cons.mp (h1 z hS)).resolve_left hz
              simp [List.mem_filter, this, hS]
            | false => simp [List.mem_filter, hS, hz]
        have e1 : sumP (fun z => if z = y then v else x z) ms S = sumP (fun z => if z = y then v else x z) ms (fun z => decide (z ∈ ns.filter S) || decide (z = y)) := sumP_congr fun z _ => ea z
        have e2 : F S = F (fun z => decide (z ∈ ns.filter S) || decide (z = y)) := hF.cg _ _ fun z _ => ea z
        have e3 := new _ hq
        have e4 := least (ns.filter S) (part_in List.filter_sublist)
        omega
      · have h1' : ∀ z, S z = true → z ∈ ns := fun z hz => (List.mem_cons.mp (h1 z hz)).resolve_left fun e => hy (by rw [← e]; exact hz)
        rw [old S h1']
        exact fe S h1' h2
    have tB : Tgt F α ms (fun z => if z = y then v else x z) (fun z => decide (z ∈ q0) || decide (z = y)) := by
      unfold Tgt
      rw [new q0 sub0]
      omega
    have tO : ∀ w ∈ ns, Tgt F α ms (fun z => if z = y then v else x z) (fun z => decide (z ∈ ns) && (c z == c w)) := fun w hw => by
      have := tg w hw
      unfold Tgt at this ⊢
      rw [old _ fun z hz => of_decide_eq_true (Bool.and_eq_true _ _ ▸ hz).1]
      exact this
    have supU : ∀ l : List Str, ∀ z, (decide (z ∈ q0) || decide (z = y) || l.any fun w => decide (z ∈ ns) && (c z == c w)) = true → z ∈ y :: ns := fun l z hz => by
      rw [Bool.or_eq_true, Bool.or_eq_true] at hz
      rcases hz with (h | h) | h
      · exact List.mem_cons_of_mem _ (sub0 z (of_decide_eq_true h))
      · rw [of_decide_eq_true h]
        exact List.mem_cons_self
      · obtain ⟨w, _, h⟩ := List.any_eq_true.mp h
        exact List.mem_cons_of_mem _ (of_decide_eq_true (Bool.and_eq_true _ _ ▸ h).1)
    have all : ∀ l : List Str, (∀ w ∈ l, w ∈ q0) → Tgt F α ms (fun z => if z = y then v else x z) (fun z => decide (z ∈ q0) || decide (z = y) || l.any fun w => decide (z ∈ ns) && (c z == c w)) := fun l => by
      induction l with
      | nil =>
        intro _
        have e : (fun z => decide (z ∈ q0) || decide (z = y) || ([] : List Str).any fun w => decide (z ∈ ns) && (c z == c w)) = fun z => decide (z ∈ q0) || decide (z = y) := by
          funext z
          simp
        rw [e]
        exact tB
      | cons w l ih =>
        intro hl
        have i := ih fun z hz => hl z (List.mem_cons_of_mem _ hz)
        have w0 := hl w List.mem_cons_self
        have u := Tgt.union hF fe' i (tO w (sub0 w w0)) (supU l) (fun z hz => List.mem_cons_of_mem _ (of_decide_eq_true (Bool.and_eq_true _ _ ▸ hz).1)) ⟨w, by simp [w0], by simp [sub0 w w0]⟩
        have e : (fun z => decide (z ∈ q0) || decide (z = y) || (w :: l).any fun w => decide (z ∈ ns) && (c z == c w)) = fun z => (decide (z ∈ q0) || decide (z = y) || l.any fun w => decide (z ∈ ns) && (c z == c w)) || (decide (z ∈ ns) && (c z == c w)) := by
          funext z
          rw [List.any_cons]
          cases decide (z ∈ q0) <;> cases decide (z = y) <;> cases (l.any fun w => decide (z ∈ ns) && (c z == c w)) <;> cases (decide (z ∈ ns) && (c z == c w)) <;> rfl
        rw [e]
        exact u
    refine ⟨_, fun z => if (decide (z = y) || q0.any fun w => c w == c z) = true then 0 else c z + 1, fe', fun t ht => ?_⟩
    by_cases h0 : (decide (t = y) || q0.any fun w => c w == c t) = true
    · have a := all q0 fun _ h => h
      unfold Tgt at a ⊢
      have ea : ∀ z ∈ ms, (decide (z ∈ y :: ns) && ((if (decide (z = y) || q0.any fun w => c w == c z) = true then 0 else c z + 1) == (if (decide (t = y) || q0.any fun w => c w == c t) = true then 0 else c t + 1))) = (decide (z ∈ q0) || decide (z = y) || q0.any fun w => decide (z ∈ ns) && (c z == c w)) := fun z _ => by
        rw [if_pos h0]
        by_cases hz : z = y
        · subst hz
          simp
        · by_cases hn : z ∈ ns
          · by_cases hc : (q0.any fun w => c w == c z) = true
            · have hc2 : (q0.any fun w => decide (z ∈ ns) && (c z == c w)) = true := by
                obtain ⟨w, mw, ew⟩ := List.any_eq_true.mp hc
                refine List.any_eq_true.mpr ⟨w, mw, ?_⟩
                simp only [beq_iff_eq] at ew
                simp [hn, ew]
              rw [if_pos (by rw [hc, Bool.or_true]), hc2, Bool.or_true]
              simp [hn]
            · have hq : z ∉ q0 := fun m => hc (List.any_eq_true.mpr ⟨z, m, by simp⟩)
              have hc2 : (q0.any fun w => decide (z ∈ ns) && (c z == c w)) = false := by
                rw [Bool.eq_false_iff]
                intro h
                obtain ⟨w, mw, ew⟩ := List.any_eq_true.mp h
                rw [Bool.and_eq_true, beq_iff_eq] at ew
                exact hc (List.any_eq_true.mpr ⟨w, mw, by simp [ew.2]⟩)
              rw [if_neg (by rw [Bool.or_eq_true]; exact fun h => h.elim (fun h => hz (of_decide_eq_true h)) hc), hc2]
              simp [hz, hq]
          · have hq : z ∉ q0 := fun m => hn (sub0 z m)
            have hc2 : (q0.any fun w => decide (z ∈ ns) && (c z == c w)) = false := by
              rw [Bool.eq_false_iff]
              intro h
              obtain ⟨w, mw, ew⟩ := List.any_eq_true.mp h
              rw [Bool.and_eq_true] at ew
              exact hn (of_decide_eq_true ew.1)
            simp [hz, hn, hq]
      rw [sumP_congr ea, hF.cg _ _ ea]
      exact a
    · have ty : t ≠ y := fun e => h0 (by simp [e])
      have tn : t ∈ ns := (List.mem_cons.mp ht).resolve_left ty
      have a := tO t tn
      unfold Tgt at a ⊢
      have ea : ∀ z ∈ ms, (decide (z ∈ y :: ns) && ((if (decide (z = y) || q0.any fun w => c w == c z) = true then 0 else c z + 1) == (if (decide (t = y) || q0.any fun w => c w == c t) = true then 0 else c t + 1))) = (decide (z ∈ ns) && (c z == c t)) := fun z _ => by
        rw [if_neg h0]
        by_cases hz : (decide (z = y) || q0.any fun w => c w == c z) = true
        · rw [if_pos hz]
          have e1 : ((0 : Nat) == c t + 1) = false := by simp
          rw [e1, Bool.and_false]
          by_cases zy : z = y
          · subst zy
            simp [n1]
          · by_cases ce : c z = c t
            · rw [Bool.or_eq_true] at hz
              rcases hz with h | h
              · exact absurd (of_decide_eq_true h) zy
              · rw [ce] at h
                exact absurd (by rw [h, Bool.or_true]) h0
            · simp [ce]
        · rw [if_neg hz]
          have zy : z ≠ y := fun e => hz (by simp [e])
          have e1 : (c z + 1 == c t + 1) = (c z == c t) := by
            by_cases ce : c z = c t
            · simp [ce]
            · simp [ce]
          rw [e1]
          simp [zy]
      rw [sumP_congr ea, hF.cg _ _ ea]
      exact a
end
end OC

set_option Elab.async false
set_option linter.all false
set_option maxRecDepth 100000
set_option maxHeartbeats 4000000
/-! the least sum of calls: numbers for each that leave none wanting -/
namespace OC
open PySem PySem.Spec PyProof.Rows L2 PySem.W
theorem split_label (c : Str → Nat) : ∀ r : List Str, ∃ ls : List Nat, ls.Nodup ∧ (∀ y ∈ r.reverse, c y ∈ ls) ∧ (∀ l ∈ ls, ∃ y ∈ r.reverse, c y = l) ∧ (ls.map fun l => r.reverse.filter fun z => c z == l) ∈ splitsR r.reverse
  | [] => ⟨[], List.nodup_nil, fun y hy => (nomatch hy), fun l hl => (nomatch hl), by simp [splitsR]⟩
  | x :: r => by
    obtain ⟨ls, nd, all, some, mem⟩ := split_label c r
    rw [List.reverse_cons]
    generalize r.reverse = ns at all some mem ⊢
    by_cases h : c x ∈ ls
    · refine ⟨ls, nd, fun y hy => ?_, fun l hl => ?_, ?_⟩
      · rcases List.mem_append.mp hy with hy | hy
        · exact all y hy
        · rw [List.mem_singleton.mp hy]
          exact h
      · obtain ⟨y, my, e⟩ := some l hl
        exact ⟨y, List.mem_append_left _ my, e⟩
      · obtain ⟨k, hk, ek⟩ := List.getElem_of_mem h
        rw [splits_snoc]
        refine List.mem_flatMap.mpr ⟨_, mem, ?_⟩
        have g := grow_at x (s := ls.map fun l => ns.filter fun z => c z == l) (k := k) (by rw [List.length_map]; exact hk)
        have e : (ls.map fun l => (ns ++ [x]).filter fun z => c z == l) = (ls.map fun l => ns.filter fun z => c z == l).take k ++ ([((ls.map fun l => ns.filter fun z => c z == l).getD k []) ++ [x]] ++ (ls.map fun l => ns.filter fun z => c z == l).drop (k + 1)) := by
          have sp : ls = ls.take k ++ (ls[k] :: ls.drop (k + 1)) := by rw [← List.drop_eq_getElem_cons hk, List.take_append_drop]
          have same : ∀ l ∈ ls.take k ++ ls.drop (k + 1), ((ns ++ [x]).filter fun z => c z == l) = ns.filter fun z => c z == l := fun l hl => by
            have ne : ¬ c x = l := fun e => by
              rw [sp, List.nodup_append] at nd
              obtain ⟨_, n2, n3⟩ := nd
              obtain ⟨n4, _⟩ := List.nodup_cons.mp n2
              rcases List.mem_append.mp hl with m | m
              · exact n3 l m _ List.mem_cons_self (by rw [← e, ek])
              · exact n4 (by rw [ek, e]; exact m)
            rw [List.filter_append]
            simp [ne]
          have gd : (ls.map fun l => ns.filter fun z => c z == l).getD k [] = ns.filter fun z => c z == c x := by
            rw [List.getD_eq_getElem?_getD, List.getElem?_map, List.getElem?_eq_getElem hk]
            show (ns.filter fun z => c z == ls[k]) = _
            rw [ek]
          rw [gd, ← List.map_take, ← List.map_drop]
          conv => lhs; rw [sp]
          rw [List.map_append, List.map_cons, List.map_congr_left fun l hl => same l (List.mem_append_left _ hl), List.map_congr_left (l := ls.drop (k + 1)) fun l hl => same l (List.mem_append_right _ hl), ek]
          rw [List.filter_append]
          simp
        rw [e]
        exact g
    · refine ⟨ls ++ [c x], ?_, fun y hy => ?_, fun l hl => ?_, ?_⟩
      · rw [List.nodup_append]
        exact ⟨nd, by simp, fun a ha b hb => by rw [List.mem_singleton.mp hb]; exact fun e => h (by rw [← e]; exact ha)⟩
      · rcases List.mem_append.mp hy with hy | hy
        · exact List.mem_append_left _ (all y hy)
        · rw [List.mem_singleton.mp hy]
          exact List.mem_append_right _ List.mem_cons_self
      · rcases List.mem_append.mp hl with hl | hl
        · obtain ⟨y, my, e⟩ := some l hl
          exact ⟨y, List.mem_append_left _ my, e⟩
        · rw [List.mem_singleton.mp hl]
          exact ⟨x, List.mem_append_right _ List.mem_cons_self, rfl⟩
      · rw [splits_snoc]
        refine List.mem_flatMap.mpr ⟨_, mem, ?_⟩
        have g := grow_new x (ls.map fun l => ns.filter fun z => c z == l)
        have same : ∀ l ∈ ls, ((ns ++ [x]).filter fun z => c z == l) = ns.filter fun z => c z == l := fun l hl => by
          have ne : ¬ c x = l := fun e => h (by rw [e]; exact hl)
          rw [List.filter_append]
          simp [ne]
        have none : (ns.filter fun z => c z == c x) = [] := List.filter_eq_nil_iff.mpr fun z hz => by
          have : ¬ c z = c x := fun e => h (by rw [← e]; exact all z hz)
          simp [this]
        rw [List.map_append, List.map_congr_left same]
        have e1 : [c x].map (fun l => (ns ++ [x]).filter fun z => c z == l) = [[x]] := by
          rw [List.map_cons, List.map_nil, List.filter_append, none]
          simp
        rw [e1]
        exact g
theorem perm_sum {x : Str → Int} {l m : List Str} (h : l.Perm m) : (l.map x).sum = (m.map x).sum := by
  induction h with
  | nil => rfl
  | cons a _ ih =>
    rw [List.map_cons, List.map_cons, List.sum_cons, List.sum_cons, ih]
  | swap a b l =>
    simp only [List.map_cons, List.sum_cons]
    omega
  | trans _ _ h1 h2 => exact h1.trans h2
theorem flat_sum {x : Str → Int} : ∀ P : List (List Str), (P.flatten.map x).sum = (P.map fun p => (p.map x).sum).sum
  | [] => rfl
  | p :: P => by
    rw [List.flatten_cons, List.map_append, List.sum_append, flat_sum P, List.map_cons, List.sum_cons]
theorem sub_sum {f : List Str → Int} {α : Int} : ∀ P : List (List Str), (P.map fun p => f p - α).sum = (P.map f).sum - P.length * α
  | [] => by simp
  | p :: P => by
    rw [List.map_cons, List.map_cons, List.sum_cons, List.sum_cons, sub_sum P, List.length_cons, Int.natCast_add, Int.add_mul]
    simp
    omega
theorem come_map {x : Str → Int} {q : List Str} : ∀ ms : List Str, comeR ms (ms.map x) q = sumP x ms fun z => decide (z ∈ q)
  | [] => rfl
  | y :: ms => by
    have ih := come_map (x := x) (q := q) ms
    unfold comeR sumP at ih ⊢
    rw [List.map_cons, List.zip_cons_cons, List.filter_cons, List.filter_cons]
    by_cases h : y ∈ q
    · simp only [h, decide_true, if_true, List.map_cons, List.sum_cons]
      rw [ih]
    · simp only [h, decide_false, Bool.false_eq_true, if_false]
      exact ih
theorem firstW_of {ms : List Str} {ns : List Int} : ∀ {xs : List (List Str × Int)}, (∀ w ∈ xs, w.2 ≤ comeR ms ns w.1) → firstW ms ns xs = none
  | [], _ => rfl
  | w :: xs, h => by
    unfold firstW
    have := h w List.mem_cons_self
    rw [if_neg (by omega)]
    exact firstW_of fun v hv => h v (List.mem_cons_of_mem _ hv)
theorem tup_in : ∀ {m : Nat} {t : Int} {x : List Int}, x.length = m + 1 → (∀ k ∈ x, 0 ≤ k) → x.sum = t → x ∈ tupR m t
  | 0, t, [k], _, _, h => by
    have h : k = t := by simpa using h
    rw [h]
    exact List.mem_singleton.mpr rfl
  | m + 1, t, k :: x, hl, h0, hs => by
    rw [List.sum_cons] at hs
    have s0 := sum_nonneg fun z hz => h0 z (List.mem_cons_of_mem k hz)
    have k0 := h0 k List.mem_cons_self
    unfold tupR
    refine List.mem_flatMap.mpr ⟨k, down_mem.mpr ⟨k0, by omega⟩, List.mem_map.mpr ⟨x, ?_, rfl⟩⟩
    exact tup_in (by simpa using hl) (fun z hz => h0 z (List.mem_cons_of_mem k hz)) (by omega)
/-- the theorem on the least sum of calls -/
theorem omni {f : List Str → Int} {ms : List Str} (nd : ms.Nodup) (l2 : 2 ≤ ms.length) (mono : ∀ q, f (restG ms q) ≤ f ms) (hF : Subm ms fun S => f (ms.filter S)) : ∃ x : List Int, x ∈ tupR (ms.length - 1) (fewR f ms) ∧ firstW ms x (wantsR f ms) = none := by
  obtain ⟨α, hα⟩ : ∃ α, α = f ms - fewR f ms := ⟨_, rfl⟩
  obtain ⟨x, c, fe, tg⟩ := greedy (α := α) hF nd ms nd fun _ h => h
  obtain ⟨ls, ndl, all, some, mem⟩ := split_label c ms.reverse
  rw [List.reverse_reverse] at all some mem
  have eT : sumP x ms (fun _ => true) = (ms.map x).sum := by
    unfold sumP
    rw [List.filter_eq_self.mpr fun _ _ => rfl]
  have eF : f (ms.filter fun _ => true) = f ms := by rw [List.filter_eq_self.mpr fun _ _ => rfl]
  obtain ⟨y0, my0⟩ : ∃ y, y ∈ ms := by
    cases ms with
    | nil => exact absurd l2 (by decide)
    | cons y r => exact ⟨y, List.mem_cons_self⟩
  -- at most
  have le : (ms.map x).sum ≤ f ms - α := by
    have u := tg y0 my0
    have tt := Tgt.union (S := fun z => decide (z ∈ ms) && (c z == c y0)) (T := fun z => decide (z ∈ ms) && (c z == c y0)) hF fe u u (fun z hz => of_decide_eq_true (Bool.and_eq_true _ _ ▸ hz).1) (fun z hz => of_decide_eq_true (Bool.and_eq_true _ _ ▸ hz).1) ⟨y0, by simp [my0], by simp [my0]⟩
    have a := fe (fun z => decide (z ∈ ms)) (fun z hz => of_decide_eq_true hz) ⟨y0, decide_eq_true my0⟩
    have e1 : sumP x ms (fun z => decide (z ∈ ms)) = sumP x ms (fun _ => true) := sumP_congr fun z hz => decide_eq_true hz
    have e2 : ms.filter (fun z => decide (z ∈ ms)) = ms := List.filter_eq_self.mpr fun z hz => decide_eq_true hz
    dsimp only at a
    rw [e1, eT, e2] at a
    exact a
  -- at least
  have os := splits_ok mem
  have sumE : (ms.map x).sum = ((ls.map fun l => ms.filter fun z => c z == l).map f).sum - (ls.map fun l => ms.filter fun z => c z == l).length * α := by
    rw [← perm_sum os.pm, flat_sum, ← sub_sum, List.map_map, List.map_map]
    congr 1
    refine List.map_congr_left fun l hl => ?_
    obtain ⟨y, my, ey⟩ := some l hl
    have u := tg y my
    unfold Tgt sumP at u
    have e : ms.filter (fun z => decide (z ∈ ms) && (c z == c y)) = ms.filter fun z => c z == l := List.filter_congr fun z hz => by simp [hz, ey]
    dsimp only at u
    rw [e] at u
    exact u
  have ge : f ms - α ≤ (ms.map x).sum := by
    generalize hP : (ls.map fun l => ms.filter fun z => c z == l) = P at mem os sumE
    by_cases h1 : 1 < P.length
    · have b := few_le (f := f) (partings_mem.mpr ⟨mem, h1⟩)
      unfold boundG boundOf at b
      rw [List.length_map] at b
      have key : α ≤ ((P.map f).sum - f ms) / ((P.length : Int) - 1) := by omega
      rw [Int.le_ediv_iff_mul_le (by omega), Int.mul_sub] at key
      rw [sumE, Int.mul_comm]
      omega
    · cases P with
      | nil =>
        have := os.pm.length_eq
        simp at this
        omega
      | cons p P' =>
        cases P' with
        | cons q P'' => simp at h1
        | nil =>
          have pl := os.pm.length_eq
          rw [List.flatten_cons, List.flatten_nil, List.append_nil] at pl
          have sb : p.Sublist ms := by
            have : p ∈ ls.map fun l => ms.filter fun z => c z == l := by
              rw [hP]
              exact List.mem_cons_self
            obtain ⟨l, _, rfl⟩ := List.mem_map.mp this
            exact List.filter_sublist
          have ep := sb.eq_of_length pl
          rw [sumE, ep]
          simp
  have tot : (ms.map x).sum = fewR f ms := by omega
  have lx : ms.length = (ms.map x).length := (List.length_map _).symm
  have none : firstW ms (ms.map x) (wantsR f ms) = none := firstW_of fun w hw => by
    unfold wantsR at hw
    obtain ⟨q, mq, rfl⟩ := List.mem_map.mp hw
    obtain ⟨m1, m2, m3⟩ := lesser_mem mq
    have sq := sets_subl m1
    have ne : restG ms q ≠ [] := fun e => (rest_nil nd sq).mp e m3
    have sp := come_split (ms := ms) (q := q) lx fun _ h => h
    have er := come_map (x := x) (q := restG ms q) ms
    have a := fe (fun z => decide (z ∈ restG ms q)) (fun z hz => (List.mem_filter.mp (of_decide_eq_true hz)).1) (by
      cases hr : restG ms q with
      | nil => exact absurd hr ne
      | cons z r => exact ⟨z, by simp⟩)
    have e2 : ms.filter (fun z => decide (z ∈ restG ms q)) = restG ms q := by
      unfold restG
      refine List.filter_congr fun z hz => ?_
      simp [List.mem_filter, hz]
    dsimp only at a
    rw [e2] at a
    show f ms - f (restG ms q) ≤ comeR ms (ms.map x) q
    omega
  refine ⟨ms.map x, tup_in (by rw [List.length_map]; omega) (fun k hk => ?_) tot, none⟩
  obtain ⟨y, my, rfl⟩ := List.mem_map.mp hk
  have w := firstW_none none ([y], f ms - f (restG ms [y])) (List.mem_map.mpr ⟨_, lesser_single my l2, rfl⟩)
  have e := come_map (x := x) (q := [y]) ms
  have e1 : sumP x ms (fun z => decide (z ∈ [y])) = x y := by
    have := sumP_one (x := x) nd my
    rw [← this]
    exact sumP_congr fun z _ => by simp
  have m := mono [y]
  dsimp only at w
  omega
theorem share_some {f : List Str → Int} {ms : List Str} (nd : ms.Nodup) (l2 : 2 ≤ ms.length) (mono : ∀ q, f (restG ms q) ≤ f ms) (hF : Subm ms fun S => f (ms.filter S)) : ∃ x, shareR f ms (fewR f ms) = some x := by
  obtain ⟨x, mx, nx⟩ := omni nd l2 mono hF
  cases h : shareR f ms (fewR f ms) with
  | some x => exact ⟨x, rfl⟩
  | none =>
    unfold shareR at h
    have := List.find?_eq_none.mp h x mx
    exact absurd (decide_eq_true nx) this
/-! what hands of a stand know is such -/
section
variable {p : Int} {n : Nat} {kn : List (List Int)} {hs : List (Str × List (List Int))}
theorem size_sub (S : Stand5 p n kn hs) {ns ms qs : List Str} (h : ∀ z ∈ qs, z ∈ ns ∧ z ∈ ms) : sizeR p n kn hs (ns ++ ms) + sizeR p n kn hs qs ≤ sizeR p n kn hs ns + sizeR p n kn hs ms := by
  have b := size_both S ns ms
  have F := S.fld
  have o1 : RowsOk p n (kn ++ selR ns hs) := rowsOk_app S.pk.1 (sel_ok S.toR.rm)
  have o2 : RowsOk p n (kn ++ selR ms hs) := rowsOk_app S.pk.1 (sel_ok S.toR.rm)
  have o3 : RowsOk p n (kn ++ selR qs hs) := rowsOk_app S.pk.1 (sel_ok S.toR.rm)
  have p1 := PFR.of_plain F o1
  have p2 := PFR.of_plain F o2
  have pm := meet_pf (n := n) (one := plainR p n (kn ++ selR ns hs)) (other := plainR p n (kn ++ selR ms hs)) F
  have := plain_mono F (n := n) o3 pm.1 fun r hr => (InR.meet F p1 p2 r).mpr (by
    rcases List.mem_append.mp hr with hr | hr
    · exact ⟨(InR.plain F o1).mpr (InR.mem (List.mem_append_left _ hr)), (InR.plain F o2).mpr (InR.mem (List.mem_append_left _ hr))⟩
    · obtain ⟨x, mx, a, b⟩ := sel_mem hr
      exact ⟨(InR.plain F o1).mpr (InR.mem (List.mem_append_right _ (mem_sel mx (h _ a).1 b))), (InR.plain F o2).mpr (InR.mem (List.mem_append_right _ (mem_sel mx (h _ a).2 b)))⟩)
  rw [pm.2] at this
  have e : sizeR p n kn hs qs = ((plainR p n (kn ++ selR qs hs)).length : Int) - (kn.length : Int) := rfl
  omega
theorem size_subm (S : Stand5 p n kn hs) (ms : List Str) : Subm ms fun T => sizeR p n kn hs (ms.filter T) where
  cg := fun A B h => by
    rw [List.filter_congr h]
  sub := fun A B => by
    have e : sizeR p n kn hs (ms.filter fun z => A z || B z) = sizeR p n kn hs (ms.filter A ++ ms.filter B) := size_congr fun z => by
      simp only [List.mem_filter, List.mem_append, Bool.or_eq_true]
      constructor
      · rintro ⟨m, h | h⟩
        · exact .inl ⟨m, h⟩
        · exact .inr ⟨m, h⟩
      · rintro (⟨m, h⟩ | ⟨m, h⟩)
        · exact ⟨m, .inl h⟩
        · exact ⟨m, .inr h⟩
    rw [e]
    exact size_sub S fun z hz => by
      obtain ⟨m, h⟩ := List.mem_filter.mp hz
      rw [Bool.and_eq_true] at h
      exact ⟨List.mem_filter.mpr ⟨m, h.1⟩, List.mem_filter.mpr ⟨m, h.2⟩⟩
end
end OC

set_option Elab.async false
set_option linter.all false
set_option maxRecDepth 100000
set_option maxHeartbeats 4000000
/-! numbers that leave none wanting come to the greatest bound of a parting at least -/
namespace OC
open PySem PySem.Spec PyProof.Rows L2 PySem.W
theorem parts_sum {f : List Str → Int} {x : Str → Int} {z s : Int} : ∀ {P : List (List Str)}, (∀ p ∈ P, z - f p ≤ s - (p.map x).sum) → P.length * z - (P.map f).sum ≤ P.length * s - (P.map fun p => (p.map x).sum).sum
  | [], _ => by simp
  | p :: P, h => by
    have h1 := h p List.mem_cons_self
    have h2 := parts_sum fun q hq => h q (List.mem_cons_of_mem p hq)
    rw [List.map_cons, List.map_cons, List.sum_cons, List.sum_cons, List.length_cons, Int.natCast_add, Int.add_mul, Int.add_mul]
    simp only [Int.cast_ofNat_Int, Int.one_mul]
    omega
theorem two_filters (q : Str → Bool) : ∀ l : List Str, l.length = (l.filter q).length + (l.filter fun y => !q y).length
  | [] => rfl
  | y :: l => by
    have := two_filters q l
    rw [List.filter_cons, List.filter_cons, List.length_cons]
    cases q y
    · simp only [Bool.false_eq_true, if_false, Bool.not_false, if_true, List.length_cons]
      omega
    · simp only [if_true, Bool.not_true, Bool.false_eq_true, if_false, List.length_cons]
      omega
theorem at_map {ms : List Str} {ns : List Int} (nd : ms.Nodup) (h : ms.length = ns.length) : ∃ x : Str → Int, ns = ms.map x := by
  refine ⟨fun y => comeR ms ns [y], List.ext_getElem (by rw [List.length_map]; omega) fun i h1 h2 => ?_⟩
  rw [List.getElem_map]
  refine (come_one nd (List.mem_iff_getElem.mpr ⟨i, by rw [List.length_zip]; omega, ?_⟩)).symm
  rw [List.getElem_zip]
theorem least_low {f : List Str → Int} {ms : List Str} {ns : List Int} (nd : ms.Nodup) (l2 : 2 ≤ ms.length) (hl : ms.length = ns.length) (h : firstW ms ns (wantsR f ms) = none) : fewR f ms ≤ ns.sum := by
  obtain ⟨x, rfl⟩ := at_map nd hl
  have m := top_mem (xs := (partingsR ms).map (boundG f ms)) (by rw [List.length_map]; exact partings_pos l2)
  obtain ⟨P, mP, e⟩ := List.mem_map.mp m
  unfold fewR
  rw [← e]
  obtain ⟨mS, gt⟩ := partings_mem.mp mP
  have os := splits_ok mS
  have key := parts_sum (f := f) (x := x) (z := f ms) (s := (ms.map x).sum) (P := P) fun p hp => by
    have sub := split_sub mS hp
    have ep := gR_sub sub nd
    have ne := os.ne p hp
    -- some other part has members
    have lt : p.length < ms.length := by
      have pl := os.pm.length_eq
      have := sub.length_le
      rcases Nat.lt_or_ge p.length ms.length with h | h
      · exact h
      · have lp : p.length = ms.length := by omega
        obtain ⟨q, mq, hq⟩ : ∃ q ∈ P.erase p, q ≠ [] := by
          have le : (P.erase p).length = P.length - 1 := List.length_erase_of_mem hp
          cases hE : P.erase p with
          | nil =>
            rw [hE] at le
            simp at le
            omega
          | cons q r => exact ⟨q, List.mem_cons_self, os.ne q (List.mem_of_mem_erase (by rw [hE]; exact List.mem_cons_self))⟩
        have pe := (List.perm_cons_erase hp).flatten.length_eq
        rw [List.flatten_cons, List.length_append] at pe
        have ql : q.length ≤ (P.erase p).flatten.length := (List.sublist_flatten_of_mem mq).length_le
        have q0 := List.length_pos_iff.mpr hq
        omega
    have ln : (restG ms p).length + p.length = ms.length := by
      have a := two_filters (fun y => decide (y ∈ p)) ms
      rw [ep] at a
      unfold restG
      omega
    have p0 := List.length_pos_iff.mpr ne
    have ml : restG ms p ∈ lesserR ms := by
      unfold lesserR
      refine (List.mergeSort_perm _ _).mem_iff.mpr (List.mem_filter.mpr ⟨part_in List.filter_sublist, ?_⟩)
      simp only [Bool.and_eq_true, decide_eq_true_eq]
      omega
    have w := firstW_none h (restG ms p, f ms - f (restG ms (restG ms p))) (List.mem_map.mpr ⟨_, ml, rfl⟩)
    have er : restG ms (restG ms p) = p := by
      conv => rhs; rw [← ep]
      unfold restG
      refine List.filter_congr fun y hy => ?_
      simp [List.mem_filter, hy]
    have sp := come_split (ms := ms) (q := p) hl fun _ h => h
    have cp := come_map (x := x) (q := p) ms
    unfold sumP at cp
    rw [ep] at cp
    dsimp only at w
    rw [er] at w
    omega
  rw [← flat_sum, perm_sum os.pm] at key
  unfold boundG boundOf
  rw [List.length_map]
  have : f ms - (ms.map x).sum ≤ ((P.map f).sum - f ms) / ((P.length : Int) - 1) := by
    rw [Int.le_ediv_iff_mul_le (by omega), Int.sub_mul, Int.mul_sub, Int.mul_sub, Int.mul_comm (f ms), Int.mul_comm (ms.map x).sum]
    omega
  omega
end OC

set_option Elab.async false
set_option linter.all false
set_option maxRecDepth 100000
set_option maxHeartbeats 4000000
/-! the least sum of calls: at most what the group knows; with one call less some part wants -/
namespace OC
open PySem PySem.Spec PyProof.Rows L2 PySem.W
theorem few_le8 {p : Int} {n : Nat} {kn : List (List Int)} {hs : List (Str × List (List Int))} (S : Stand5 p n kn hs) {ms : List Str} (l2 : 2 ≤ ms.length) : fewR (sizeR p n kn hs) ms ≤ 8 := by
  have m := top_mem (xs := (partingsR ms).map (boundG (sizeR p n kn hs) ms)) (by rw [List.length_map]; exact partings_pos l2)
  obtain ⟨P, mP, e⟩ := List.mem_map.mp m
  unfold fewR
  rw [← e]
  have gt := (partings_mem.mp mP).2
  have os := splits_ok (partings_mem.mp mP).1
  have fl := size_flat S P
  rw [size_congr (ns := P.flatten) (ms := ms) fun x => os.pm.mem_iff] at fl
  have m8 := size_le S ms
  unfold boundG boundOf
  rw [List.length_map]
  have : 0 ≤ ((P.map (sizeR p n kn hs)).sum - sizeR p n kn hs ms) / ((P.length : Int) - 1) := Int.ediv_nonneg (by omega) (by omega)
  omega
theorem come_cons (y : Str) (k : Int) (ys : List Str) (ns : List Int) (q : List Str) : comeR (y :: ys) (k :: ns) q = (if y ∈ q then k else 0) + comeR ys ns q := by
  unfold comeR
  rw [List.zip_cons_cons, List.filter_cons]
  by_cases h : y ∈ q <;> simp [h]
theorem come_less {q : List Str} {a : Int} : ∀ {ys : List Str} {ns : List Int} {k : Nat} {y : Str}, ys.length = ns.length → ys[k]? = some y → ¬ y ∈ q → comeR ys (ns.take k ++ a :: ns.drop (k + 1)) q = comeR ys ns q
  | x :: ys, j :: ns, 0, y, _, g, h => by
    cases g
    show comeR (x :: ys) (a :: ns) q = _
    rw [come_cons, come_cons, if_neg h, if_neg h]
  | x :: ys, j :: ns, k + 1, y, hl, g, h => by
    show comeR (x :: ys) (j :: (ns.take k ++ a :: ns.drop (k + 1))) q = _
    rw [come_cons, come_cons, come_less (ys := ys) (ns := ns) (k := k) (y := y) (by simpa using hl) (by simpa using g) h]
theorem firstW_some {ms : List Str} {ns : List Int} {q : List Str} : ∀ {xs : List (List Str × Int)}, firstW ms ns xs = some q → ∃ x ∈ xs, x.1 = q ∧ comeR ms ns q < x.2
  | x :: xs, h => by
    unfold firstW at h
    split at h
    · next e =>
      have h := Option.some.inj h
      exact ⟨x, List.mem_cons_self, h, by rw [← h]; omega⟩
    · obtain ⟨y, my, e⟩ := firstW_some h
      exact ⟨y, List.mem_cons_of_mem _ my, e⟩
/-- the numbers with one call less of a hand -/
def lessN (z : List Int) (k : Nat) : List Int := z.take k ++ (z.getD k 0 - 1) :: z.drop (k + 1)
theorem less_len {z : List Int} {k : Nat} (h : k < z.length) : (lessN z k).length = z.length := by
  unfold lessN
  rw [List.length_append, List.length_take, List.length_cons, List.length_drop]
  omega
theorem less_sum : ∀ {z : List Int} {k : Nat}, k < z.length → (lessN z k).sum = z.sum - 1
  | [], _, h => absurd h (Nat.not_lt_zero _)
  | a :: z, 0, _ => by
    unfold lessN
    simp
    omega
  | a :: z, k + 1, h => by
    have ih := less_sum (z := z) (k := k) (by simpa using h)
    unfold lessN at ih ⊢
    simp only [List.take_succ_cons, List.drop_succ_cons, List.cons_append, List.sum_cons, List.getD_cons_succ] at ih ⊢
    omega
/-- with one call less of a hand some part wants, and the first one has that hand -/
theorem less_wants {f : List Str → Int} {ms : List Str} {z : List Int} {k : Nat} {y : Str} (nd : ms.Nodup) (l2 : 2 ≤ ms.length) (hl : ms.length = z.length) (h : firstW ms z (wantsR f ms) = none) (hs : z.sum = fewR f ms) (g : ms[k]? = some y) : ∃ q, firstW ms (lessN z k) (wantsR f ms) = some q ∧ y ∈ q := by
  have hk : k < z.length := by
    have := (List.getElem?_eq_some_iff.mp g).1
    omega
  cases e : firstW ms (lessN z k) (wantsR f ms) with
  | none =>
    have := least_low nd l2 (by rw [less_len hk]; exact hl) e
    rw [less_sum hk] at this
    omega
  | some q =>
    refine ⟨q, rfl, Classical.byContradiction fun ny => ?_⟩
    obtain ⟨x, mx, ex, lt⟩ := firstW_some e
    have h1 := firstW_none h x mx
    unfold lessN at lt
    rw [come_less hl g ny] at lt
    rw [ex] at h1
    omega
end OC

set_option Elab.async false
set_option linter.all false
set_option maxRecDepth 100000
set_option maxHeartbeats 4000000
/-! calls that a group makes: what is known behind a call, and how few are left -/
namespace OC
open PySem PySem.Spec PyProof.Rows L2 PySem.W
theorem InR.sub {p : Int} {rs ts : List (List Int)} {r : List Int} (h : ∀ x ∈ rs, x ∈ ts) (hr : InR p rs r) : InR p ts r := InR.mono (fun x hx => InR.mem (h x hx)) hr
section
variable {p : Int} {n : Nat} {kn : List (List Int)} {hs : List (Str × List (List Int))} {row : List Int}
/-- the hands behind a call -/
def heardH (p : Int) (n : Nat) (row : List Int) (hs : List (Str × List (List Int))) : List (Str × List (List Int)) := hs.map fun h => (h.1, plainR p n (h.2 ++ [row]))
theorem heard_names : (heardH p n row hs).map Prod.fst = hs.map Prod.fst := by
  unfold heardH
  rw [List.map_map]
  rfl
theorem Stand5.heard (S : Stand5 p n kn hs) (hr : RowsOk p n [row]) : Stand5 p n (plainR p n (kn ++ [row])) (heardH p n row hs) where
  fld := S.fld
  p1 := S.p1
  n1 := S.n1
  n8 := S.n8
  pk := PFR.of_plain S.fld (rowsOk_app S.pk.1 hr)
  ph := fun h hh => by
    obtain ⟨x, mx, rfl⟩ := List.mem_map.mp hh
    exact PFR.of_plain S.fld (rowsOk_app (S.ph x mx).1 hr)
  inn := fun h hh r mr => by
    obtain ⟨x, mx, rfl⟩ := List.mem_map.mp hh
    refine (InR.plain S.fld (rowsOk_app (S.ph x mx).1 hr)).mpr ?_
    refine InR.mono (fun z hz => ?_) ((InR.plain S.fld (rowsOk_app S.pk.1 hr)).mp (InR.mem mr))
    rcases List.mem_append.mp hz with hz | hz
    · exact InR.sub (fun y hy => List.mem_append_left _ hy) (S.inn x mx z hz)
    · exact InR.mem (List.mem_append_right _ hz)
  few := by
    unfold heardH
    rw [List.length_map]
    exact S.few
  many := by
    unfold heardH
    rw [List.length_map]
    exact S.many
  srt := by
    rw [heard_names]
    exact S.srt
  nd := by
    rw [heard_names]
    exact S.nd
  nm := by
    rw [heard_names]
    exact S.nm
theorem room_heard (S : Stand5 p n kn hs) (hr : RowsOk p n [row]) (q : List Str) : roomR p n (plainR p n (kn ++ [row])) (heardH p n row hs) q = plainR p n (roomR p n kn hs q ++ [row]) := by
  have F := S.fld
  have S' := S.heard hr
  have oq := room_rows S q
  have ok1 := rowsOk_app S.pk.1 hr
  have up : ∀ z, InR p (kn ++ selR q hs) z → InR p (roomR p n kn hs q ++ [row]) z := fun z hz => InR.sub (fun y hy => List.mem_append_left _ hy) ((InR.plain F oq).mpr hz)
  refine plain_same F (room_rows S' q) (rowsOk_app (room_pf S q).1 hr) (fun r mr => ?_) (fun r mr => ?_)
  · rcases List.mem_append.mp mr with mr | mr
    · refine InR.mono (fun z hz => ?_) ((InR.plain F ok1).mp (InR.mem mr))
      rcases List.mem_append.mp hz with hz | hz
      · exact up z (InR.mem (List.mem_append_left _ hz))
      · exact InR.mem (List.mem_append_right _ hz)
    · obtain ⟨x, mx, a, b⟩ := sel_mem mr
      obtain ⟨y, my, rfl⟩ := List.mem_map.mp mx
      refine InR.mono (fun z hz => ?_) ((InR.plain F (rowsOk_app (S.ph y my).1 hr)).mp (InR.mem b))
      rcases List.mem_append.mp hz with hz | hz
      · exact up z (InR.mem (List.mem_append_right _ (mem_sel my a hz)))
      · exact InR.mem (List.mem_append_right _ hz)
  · have lk : ∀ z, InR p (kn ++ [row]) z → InR p (plainR p n (kn ++ [row]) ++ selR q (heardH p n row hs)) z := fun z hz => InR.sub (fun y hy => List.mem_append_left _ hy) ((InR.plain F ok1).mpr hz)
    rcases List.mem_append.mp mr with mr | mr
    · refine InR.mono (fun z hz => ?_) ((InR.plain F oq).mp (InR.mem mr))
      rcases List.mem_append.mp hz with hz | hz
      · exact lk z (InR.mem (List.mem_append_left _ hz))
      · obtain ⟨y, my, a, b⟩ := sel_mem hz
        refine InR.sub (fun u hu => List.mem_append_right _ (mem_sel (h := (y.1, plainR p n (y.2 ++ [row]))) (List.mem_map_of_mem my) a hu)) ((InR.plain F (rowsOk_app (S.ph y my).1 hr)).mpr (InR.mem (List.mem_append_left _ b)))
    · exact lk r (InR.mem (List.mem_append_right _ mr))
theorem has_room (S : Stand5 p n kn hs) (hr : RowsOk p n [row]) (q : List Str) : hasR p n (roomR p n kn hs q) row = true ↔ InR p (kn ++ selR q hs) row := hasR_plain S.fld (room_rows S q) hr
theorem has_more (S : Stand5 p n kn hs) (hr : RowsOk p n [row]) {q q' : List Str} (h : ∀ x ∈ q, x ∈ q') (e : hasR p n (roomR p n kn hs q) row = true) : hasR p n (roomR p n kn hs q') row = true := by
  rw [has_room S hr] at e ⊢
  refine InR.sub (fun z hz => ?_) e
  rcases List.mem_append.mp hz with hz | hz
  · exact List.mem_append_left _ hz
  · obtain ⟨y, my, a, b⟩ := sel_mem hz
    exact List.mem_append_right _ (mem_sel my (h _ a) b)
/-- how much is known behind a call -/
theorem size_heard (S : Stand5 p n kn hs) (hr : RowsOk p n [row]) (q : List Str) : sizeR p n (plainR p n (kn ++ [row])) (heardH p n row hs) q = sizeR p n kn hs q + (if hasR p n (roomR p n kn hs q) row = true then 0 else 1) - (if hasR p n kn row = true then 0 else 1) := by
  show ((roomR p n (plainR p n (kn ++ [row])) (heardH p n row hs) q).length : Int) - _ = ((roomR p n kn hs q).length : Int) - (kn.length : Int) + _ - _
  rw [room_heard S hr, plain_one_more S.fld (room_pf S q).1 hr, plain_one_more S.fld S.pk.1 hr, (room_pf S q).2, S.pk.2]
  cases hasR p n (roomR p n kn hs q) row <;> cases hasR p n kn row <;> simp <;> omega
end
/-! ### numbers behind a call -/
/-- another number at a place -/
def setN (z : List Int) (k : Nat) (a : Int) : List Int := z.take k ++ a :: z.drop (k + 1)
theorem less_setN (z : List Int) (k : Nat) : lessN z k = setN z k (z.getD k 0 - 1) := rfl
theorem setN_len {z : List Int} {k : Nat} {a : Int} (h : k < z.length) : (setN z k a).length = z.length := by
  unfold setN
  rw [List.length_append, List.length_take, List.length_cons, List.length_drop]
  omega
theorem setN_sum : ∀ {z : List Int} {k : Nat} {a : Int}, k < z.length → (setN z k a).sum = z.sum + (a - z.getD k 0)
  | [], _, _, h => absurd h (Nat.not_lt_zero _)
  | b :: z, 0, a, _ => by
    unfold setN
    simp
    omega
  | b :: z, k + 1, a, h => by
    have ih := setN_sum (z := z) (k := k) (a := a) (by simpa using h)
    unfold setN at ih ⊢
    simp only [List.take_succ_cons, List.drop_succ_cons, List.cons_append, List.sum_cons, List.getD_cons_succ] at ih ⊢
    omega
theorem come_set {q : List Str} {a : Int} : ∀ {ys : List Str} {ns : List Int} {k : Nat} {y : Str}, ys.length = ns.length → ys[k]? = some y → comeR ys (setN ns k a) q = comeR ys ns q + (if y ∈ q then a - ns.getD k 0 else 0)
  | x :: ys, j :: ns, 0, y, _, g => by
    cases g
    show comeR (x :: ys) (a :: ns) q = _
    rw [come_cons, come_cons, List.getD_cons_zero]
    by_cases h : x ∈ q <;> simp only [h, if_true, if_false] <;> omega
  | x :: ys, j :: ns, k + 1, y, hl, g => by
    show comeR (x :: ys) (j :: setN ns k a) q = _
    rw [come_cons, come_cons, come_set (ys := ys) (ns := ns) (k := k) (y := y) (by simpa using hl) (by simpa using g), List.getD_cons_succ]
    omega
section
variable {f f' : List Str → Int} {In : List Str → Bool} {k0 : Int} {ms : List Str} {ns : List Int} {k : Nat} {y : Str}
theorem rest_mem {q : List Str} {x : Str} : x ∈ restG ms q ↔ x ∈ ms ∧ x ∉ q := by
  unfold restG
  simp [List.mem_filter]
theorem feas_behind (hf : ∀ q, f' q = f q + (if In q = true then 0 else 1) - k0) (mono : ∀ q q', (∀ x ∈ q, x ∈ q') → In q = true → In q' = true) (hy : In [y] = true) (hl : ms.length = ns.length) (h : firstW ms ns (wantsR f ms) = none) (g : ms[k]? = some y)
    (safe : ∀ q ∈ lesserR ms, y ∈ q → comeR ms ns q = f ms - f (restG ms q) → In (restG ms q) = false) : firstW ms (lessN ns k) (wantsR f' ms) = none := by
  have my := List.mem_of_getElem? g
  have all : In ms = true := mono [y] ms (fun x hx => by rw [List.mem_singleton.mp hx]; exact my) hy
  have hm := hf ms
  rw [if_pos all] at hm
  refine firstW_of fun w hw => ?_
  obtain ⟨q, mq, rfl⟩ := List.mem_map.mp hw
  have h1 := firstW_none h (q, f ms - f (restG ms q)) (List.mem_map.mpr ⟨q, mq, rfl⟩)
  have hr := hf (restG ms q)
  have c := come_set (q := q) (a := ns.getD k 0 - 1) hl g
  rw [← less_setN] at c
  dsimp only at h1 ⊢
  by_cases m : y ∈ q
  · rw [if_pos m] at c
    by_cases t : comeR ms ns q = f ms - f (restG ms q)
    · rw [safe q mq m t] at hr
      simp only [Bool.false_eq_true, if_false] at hr
      omega
    · split at hr <;> omega
  · rw [if_neg m] at c
    have : In (restG ms q) = true := mono [y] _ (fun x hx => by rw [List.mem_singleton.mp hx]; exact rest_mem.mpr ⟨my, m⟩) hy
    rw [if_pos this] at hr
    omega
/-- behind such a call one call less is left -/
theorem few_behind (hf : ∀ q, f' q = f q + (if In q = true then 0 else 1) - k0) (mono : ∀ q q', (∀ x ∈ q, x ∈ q') → In q = true → In q' = true) (hy : In [y] = true) (nd : ms.Nodup) (l2 : 2 ≤ ms.length) (hl : ms.length = ns.length) (g : ms[k]? = some y)
    (h' : firstW ms (lessN ns k) (wantsR f' ms) = none) (hs : ns.sum = fewR f ms) {x : List Int} (lx : ms.length = x.length) (hx : firstW ms x (wantsR f' ms) = none) (sx : x.sum = fewR f' ms) : fewR f' ms = fewR f ms - 1 := by
  have my := List.mem_of_getElem? g
  have hk : k < ms.length := (List.getElem?_eq_some_iff.mp g).1
  have all : In ms = true := mono [y] ms (fun x hx => by rw [List.mem_singleton.mp hx]; exact my) hy
  have hm := hf ms
  rw [if_pos all] at hm
  have a := least_low nd l2 (by rw [less_len (by omega)]; exact hl) h'
  rw [less_sum (by omega)] at a
  have b : firstW ms (setN x k (x.getD k 0 + 1)) (wantsR f ms) = none := firstW_of fun w hw => by
    obtain ⟨q, mq, rfl⟩ := List.mem_map.mp hw
    have h1 := firstW_none hx (q, f' ms - f' (restG ms q)) (List.mem_map.mpr ⟨q, mq, rfl⟩)
    have hr := hf (restG ms q)
    have c := come_set (q := q) (a := x.getD k 0 + 1) lx g
    dsimp only at h1 ⊢
    by_cases m : y ∈ q
    · rw [if_pos m] at c
      split at hr <;> omega
    · rw [if_neg m] at c
      have : In (restG ms q) = true := mono [y] _ (fun x hx => by rw [List.mem_singleton.mp hx]; exact rest_mem.mpr ⟨my, m⟩) hy
      rw [if_pos this] at hr
      omega
  have d := least_low nd l2 (by rw [setN_len (by omega)]; exact lx) b
  rw [setN_sum (by omega)] at d
  omega
end
end OC

set_option Elab.async false
set_option linter.all false
set_option maxRecDepth 100000
set_option maxHeartbeats 4000000
/-! a call behind which the numbers, one less, leave none wanting -/
namespace OC
open PySem PySem.Spec PyProof.Rows L2 PySem.W
/-! ### the groups that must not know the row -/
/-- the others of the parts with the hand that have nothing to spare -/
def listR (f : List Str → Int) (ms : List Str) (ns : List Int) (y : Str) : List (List Str) := ((wantsR f ms).filter fun w => decide (y ∈ w.1) && decide (comeR ms ns w.1 - w.2 = 0)).map fun w => restG ms w.1
def lesserB (one other : List Str) : Bool := decide (one.length < other.length) && one.all fun x => decide (x ∈ other)
def greatR (L : List (List Str)) : List (List Str) := L.filter fun one => !(L.any fun other => lesserB one other)
theorem list_mem {f : List Str → Int} {ms : List Str} {ns : List Int} {y : Str} {g : List Str} : g ∈ listR f ms ns y ↔ ∃ q ∈ lesserR ms, y ∈ q ∧ comeR ms ns q = f ms - f (restG ms q) ∧ g = restG ms q := by
  unfold listR wantsR
  constructor
  · intro h
    obtain ⟨w, mw, rfl⟩ := List.mem_map.mp h
    obtain ⟨h1, h2⟩ := List.mem_filter.mp mw
    obtain ⟨q, mq, rfl⟩ := List.mem_map.mp h1
    simp only [Bool.and_eq_true, decide_eq_true_eq] at h2
    exact ⟨q, mq, h2.1, by omega, rfl⟩
  · rintro ⟨q, mq, yq, t, rfl⟩
    refine List.mem_map.mpr ⟨(q, f ms - f (restG ms q)), List.mem_filter.mpr ⟨List.mem_map.mpr ⟨q, mq, rfl⟩, ?_⟩, rfl⟩
    simp only [Bool.and_eq_true, decide_eq_true_eq]
    exact ⟨yq, by omega⟩
theorem lesserB_iff {one other : List Str} : lesserB one other = true ↔ one.length < other.length ∧ ∀ x ∈ one, x ∈ other := by
  unfold lesserB
  simp
theorem great_mem {L : List (List Str)} {g : List Str} : g ∈ greatR L ↔ g ∈ L ∧ ∀ o ∈ L, ¬ (g.length < o.length ∧ ∀ x ∈ g, x ∈ o) := by
  unfold greatR
  rw [List.mem_filter]
  constructor
  · rintro ⟨a, b⟩
    refine ⟨a, fun o mo h => ?_⟩
    have : (L.any fun other => lesserB g other) = true := List.any_eq_true.mpr ⟨o, mo, lesserB_iff.mpr h⟩
    rw [this] at b
    cases b
  · rintro ⟨a, b⟩
    refine ⟨a, ?_⟩
    cases e : L.any fun other => lesserB g other with
    | false => rfl
    | true =>
      obtain ⟨o, mo, h⟩ := List.any_eq_true.mp e
      exact absurd (lesserB_iff.mp h) (b o mo)
theorem great_up {L : List (List Str)} {N : Nat} (hN : ∀ g ∈ L, g.length ≤ N) : ∀ (d : Nat) (one : List Str), one ∈ L → N - one.length ≤ d → ∃ g ∈ greatR L, ∀ x ∈ one, x ∈ g
  | 0, one, m, h => ⟨one, great_mem.mpr ⟨m, fun o mo ⟨lt, _⟩ => by
      have := hN o mo
      omega⟩, fun _ h => h⟩
  | d + 1, one, m, h => by
    by_cases e : ∃ o ∈ L, one.length < o.length ∧ ∀ x ∈ one, x ∈ o
    · obtain ⟨o, mo, lt, sub⟩ := e
      have := hN o mo
      obtain ⟨g, mg, hg⟩ := great_up hN d o mo (by omega)
      exact ⟨g, mg, fun x hx => hg x (sub x hx)⟩
    · exact ⟨one, great_mem.mpr ⟨m, fun o mo h => e ⟨o, mo, h⟩⟩, fun _ h => h⟩
theorem lesser_in {ms q : List Str} (sub : q.Sublist ms) (h0 : ∃ x, x ∈ q) (h1 : ∃ x ∈ ms, x ∉ q) : q ∈ lesserR ms := by
  unfold lesserR
  refine (List.mergeSort_perm _ _).mem_iff.mpr (List.mem_filter.mpr ⟨part_in sub, ?_⟩)
  obtain ⟨x, hx⟩ := h0
  obtain ⟨z, mz, nz⟩ := h1
  have a := List.length_pos_of_mem hx
  have b : q.length < ms.length := by
    rcases Nat.lt_or_ge q.length ms.length with h | h
    · exact h
    · rw [sub.eq_of_length_le h] at nz
      exact absurd mz nz
  simp only [Bool.and_eq_true, decide_eq_true_eq]
  exact ⟨a, b⟩
theorem lesser_sub {ms q : List Str} (h : q ∈ lesserR ms) : q.Sublist ms := sets_subl (lesser_mem h).1
theorem lesser_out {ms q : List Str} (nd : ms.Nodup) (h : q ∈ lesserR ms) : ∃ x, x ∈ restG ms q := by
  have e := rest_nil nd (lesser_sub h)
  have lt := (lesser_mem h).2.2
  cases hr : restG ms q with
  | nil => exact absurd lt (e.mp hr)
  | cons x r => exact ⟨x, List.mem_cons_self⟩
theorem rest_rest {ms q : List Str} (nd : ms.Nodup) (sub : q.Sublist ms) : restG ms (restG ms q) = q := by
  have ep := gR_sub sub nd
  conv => rhs; rw [← ep]
  unfold restG
  refine List.filter_congr fun y hy => ?_
  simp [List.mem_filter, hy]
section
variable {f : List Str → Int} {ms : List Str} {ns : List Int} {y : Str}
theorem want_le (h : firstW ms ns (wantsR f ms) = none) {q : List Str} (m : q ∈ lesserR ms) : f ms - f (restG ms q) ≤ comeR ms ns q := firstW_none h (q, f ms - f (restG ms q)) (List.mem_map.mpr ⟨q, m, rfl⟩)
/-- what two parts with nothing to spare share has nothing to spare -/
theorem tight_meet (nd : ms.Nodup) (hF : Subm ms fun S => f (ms.filter S)) (hl : ms.length = ns.length) (h : firstW ms ns (wantsR f ms) = none) {q1 q2 : List Str} (m1 : q1 ∈ lesserR ms) (m2 : q2 ∈ lesserR ms) (y1 : y ∈ q1) (y2 : y ∈ q2) (t1 : comeR ms ns q1 = f ms - f (restG ms q1)) (t2 : comeR ms ns q2 = f ms - f (restG ms q2)) {x : Str} (hx : x ∈ restG ms q1) (hx2 : x ∈ restG ms q2) :
    ms.filter (fun z => decide (z ∈ q1) && decide (z ∈ q2)) ∈ lesserR ms ∧ comeR ms ns (ms.filter fun z => decide (z ∈ q1) && decide (z ∈ q2)) = f ms - f (restG ms (ms.filter fun z => decide (z ∈ q1) && decide (z ∈ q2))) := by
  obtain ⟨v, rfl⟩ := at_map nd hl
  have my := (lesser_sub m1).subset y1
  obtain ⟨mx, nx1⟩ := rest_mem.mp hx
  obtain ⟨_, nx2⟩ := rest_mem.mp hx2
  have mU : ms.filter (fun z => decide (z ∈ q1) && decide (z ∈ q2)) ∈ lesserR ms := lesser_in List.filter_sublist ⟨y, List.mem_filter.mpr ⟨my, by simp [y1, y2]⟩⟩ ⟨x, mx, fun z => by
    have := (List.mem_filter.mp z).2
    simp [nx1] at this⟩
  have mI : ms.filter (fun z => decide (z ∈ q1) || decide (z ∈ q2)) ∈ lesserR ms := lesser_in List.filter_sublist ⟨y, List.mem_filter.mpr ⟨my, by simp [y1]⟩⟩ ⟨x, mx, fun z => by
    have := (List.mem_filter.mp z).2
    simp [nx1, nx2] at this⟩
  refine ⟨mU, ?_⟩
  have wU := want_le h mU
  have wI := want_le h mI
  have eU : restG ms (ms.filter fun z => decide (z ∈ q1) && decide (z ∈ q2)) = ms.filter fun z => !decide (z ∈ q1) || !decide (z ∈ q2) := List.filter_congr fun z hz => by
    simp only [List.mem_filter, hz, true_and, Bool.and_eq_true, decide_eq_true_eq]
    by_cases a : z ∈ q1 <;> by_cases b : z ∈ q2 <;> simp [a, b]
  have eI : restG ms (ms.filter fun z => decide (z ∈ q1) || decide (z ∈ q2)) = ms.filter fun z => !decide (z ∈ q1) && !decide (z ∈ q2) := List.filter_congr fun z hz => by
    simp only [List.mem_filter, hz, true_and, Bool.or_eq_true, decide_eq_true_eq]
    by_cases a : z ∈ q1 <;> by_cases b : z ∈ q2 <;> simp [a, b]
  have sub := hF.sub (fun z => !decide (z ∈ q1)) (fun z => !decide (z ∈ q2))
  rw [eU] at wU ⊢
  rw [eI] at wI
  have c1 := come_map (x := v) (q := q1) ms
  have c2 := come_map (x := v) (q := q2) ms
  have cU := come_map (x := v) (q := ms.filter fun z => decide (z ∈ q1) && decide (z ∈ q2)) ms
  have cI := come_map (x := v) (q := ms.filter fun z => decide (z ∈ q1) || decide (z ∈ q2)) ms
  rw [sumP_congr (T := fun z => decide (z ∈ q1) && decide (z ∈ q2)) fun z hz => by simp [List.mem_filter, hz]] at cU
  rw [sumP_congr (T := fun z => decide (z ∈ q1) || decide (z ∈ q2)) fun z hz => by simp [List.mem_filter, hz]] at cI
  have md := sumP_mod v (fun z => decide (z ∈ q1)) (fun z => decide (z ∈ q2)) ms
  have r1 : restG ms q1 = ms.filter fun z => !decide (z ∈ q1) := rfl
  have r2 : restG ms q2 = ms.filter fun z => !decide (z ∈ q2) := rfl
  rw [r1] at t1
  rw [r2] at t2
  omega
theorem great_apart (nd : ms.Nodup) (hF : Subm ms fun S => f (ms.filter S)) (hl : ms.length = ns.length) (h : firstW ms ns (wantsR f ms) = none) {g1 g2 : List Str} (m1 : g1 ∈ greatR (listR f ms ns y)) (m2 : g2 ∈ greatR (listR f ms ns y)) {x : Str} (x1 : x ∈ g1) (x2 : x ∈ g2) : g1 = g2 := by
  obtain ⟨l1, b1⟩ := great_mem.mp m1
  obtain ⟨l2, b2⟩ := great_mem.mp m2
  obtain ⟨q1, mq1, y1, t1, rfl⟩ := list_mem.mp l1
  obtain ⟨q2, mq2, y2, t2, rfl⟩ := list_mem.mp l2
  obtain ⟨mU, tU⟩ := tight_meet nd hF hl h mq1 mq2 y1 y2 t1 t2 x1 x2
  have my := (lesser_sub mq1).subset y1
  have lU : restG ms (ms.filter fun z => decide (z ∈ q1) && decide (z ∈ q2)) ∈ listR f ms ns y := list_mem.mpr ⟨_, mU, List.mem_filter.mpr ⟨my, by simp [y1, y2]⟩, tU, rfl⟩
  have sub1 : (restG ms q1).Sublist (restG ms (ms.filter fun z => decide (z ∈ q1) && decide (z ∈ q2))) := by
    have e : restG ms q1 = (restG ms (ms.filter fun z => decide (z ∈ q1) && decide (z ∈ q2))).filter fun z => !decide (z ∈ q1) := by
      unfold restG
      rw [List.filter_filter]
      refine List.filter_congr fun z hz => ?_
      by_cases a : z ∈ q1 <;> simp [a, hz, List.mem_filter]
    rw [e]
    exact List.filter_sublist
  have sub2 : (restG ms q2).Sublist (restG ms (ms.filter fun z => decide (z ∈ q1) && decide (z ∈ q2))) := by
    have e : restG ms q2 = (restG ms (ms.filter fun z => decide (z ∈ q1) && decide (z ∈ q2))).filter fun z => !decide (z ∈ q2) := by
      unfold restG
      rw [List.filter_filter]
      refine List.filter_congr fun z hz => ?_
      by_cases a : z ∈ q2 <;> simp [a, hz, List.mem_filter]
    rw [e]
    exact List.filter_sublist
  have e1 := sub1.eq_of_length_le (Nat.le_of_not_lt fun lt => b1 _ lU ⟨lt, sub1.subset⟩)
  have e2 := sub2.eq_of_length_le (Nat.le_of_not_lt fun lt => b2 _ lU ⟨lt, sub2.subset⟩)
  rw [e1, ← e2]
theorem list_nodup (nd : ms.Nodup) : (listR f ms ns y).Nodup := by
  have ln : (lesserR ms).Nodup := (List.mergeSort_perm _ _).nodup_iff.mpr ((sets_nodup nd).filter _)
  unfold listR wantsR
  rw [List.filter_map, List.map_map]
  refine List.pairwise_map.mpr (List.Pairwise.imp_of_mem (fun {a b} ma mb ne e => ne ?_) (ln.filter _))
  have sa := lesser_sub (List.mem_filter.mp ma).1
  have sb := lesser_sub (List.mem_filter.mp mb).1
  have e : restG ms a = restG ms b := e
  rw [← rest_rest nd sa, e, rest_rest nd sb]
theorem great_few (nd : ms.Nodup) (my : y ∈ ms) (hF : Subm ms fun S => f (ms.filter S)) (hl : ms.length = ns.length) (h : firstW ms ns (wantsR f ms) = none) : (greatR (listR f ms ns y)).length + 1 ≤ ms.length := by
  have hd : ∀ g ∈ greatR (listR f ms ns y), g.headD y ∈ g ∧ y ∉ g ∧ ∀ x ∈ g, x ∈ ms := fun g mg => by
    obtain ⟨q, mq, yq, t, rfl⟩ := list_mem.mp (great_mem.mp mg).1
    obtain ⟨x, hx⟩ := lesser_out nd mq
    refine ⟨?_, fun z => (rest_mem.mp z).2 yq, fun z hz => (rest_mem.mp hz).1⟩
    cases hr : restG ms q with
    | nil =>
      rw [hr] at hx
      cases hx
    | cons a r => exact List.mem_cons_self
  have ndg : (greatR (listR f ms ns y)).Nodup := (list_nodup nd).filter _
  have ndh : ((greatR (listR f ms ns y)).map fun g => g.headD y).Nodup := List.pairwise_map.mpr (List.Pairwise.imp_of_mem (fun {a b} ma mb ne e => ne (great_apart nd hF hl h ma mb (hd a ma).1 (by
    have := (hd b mb).1
    rw [← e] at this
    exact this))) ndg)
  have all : (y :: (greatR (listR f ms ns y)).map fun g => g.headD y).Nodup := List.nodup_cons.mpr ⟨fun z => by
    obtain ⟨g, mg, e⟩ := List.mem_map.mp z
    obtain ⟨a, b, _⟩ := hd g mg
    rw [e] at a
    exact b a, ndh⟩
  have sb : ∀ z ∈ (y :: (greatR (listR f ms ns y)).map fun g => g.headD y), z ∈ ms := fun z hz => by
    rcases List.mem_cons.mp hz with e | hz
    · rw [e]
      exact my
    · obtain ⟨g, mg, rfl⟩ := List.mem_map.mp hz
      obtain ⟨a, _, c⟩ := hd g mg
      exact c _ a
  have le := (List.Nodup.length_le_of_subset all) sb
  rw [List.length_cons, List.length_map] at le
  exact le
end
/-! ### a row of the hand outside one of these rooms -/
section
variable {p : Int} {n : Nat} {kn : List (List Int)} {hs : List (Str × List (List Int))} {ms : List Str} {ns : List Int} {k : Nat} {y : Str}
theorem fresh_some (S : Stand5 p n kn hs) (nd : ms.Nodup) (hl : ms.length = ns.length) (h : firstW ms ns (wantsR (sizeR p n kn hs) ms) = none) (g : ms[k]? = some y) (pos : 1 ≤ ns.getD k 0) {q : List Str} (mq : q ∈ lesserR ms) (yq : y ∈ q) (t : comeR ms ns q = sizeR p n kn hs ms - sizeR p n kn hs (restG ms q)) :
    ∃ r ∈ roomR p n kn hs [y], hasR p n (roomR p n kn hs (restG ms q)) r = false := by
  apply Classical.byContradiction
  intro no
  have F := S.fld
  have my := List.mem_of_getElem? g
  have all : ∀ r ∈ roomR p n kn hs [y], InR p (kn ++ selR (restG ms q) hs) r := fun r mr => by
    have or : RowsOk p n [r] := rowsOk_one ((room_pf S [y]).1 r mr)
    refine (has_room S or (restG ms q)).mp ?_
    cases e : hasR p n (roomR p n kn hs (restG ms q)) r with
    | true => rfl
    | false => exact absurd ⟨r, mr, e⟩ no
  have eS : sizeR p n kn hs (restG ms q ++ [y]) = sizeR p n kn hs (restG ms q) := by
    unfold sizeR
    rw [plain_same F (room_rows S (restG ms q ++ [y])) (room_rows S (restG ms q)) (fun r mr => ?_) (fun r mr => ?_)]
    · rcases List.mem_append.mp mr with mr | mr
      · exact InR.mem (List.mem_append_left _ mr)
      · obtain ⟨x, mx, a, b⟩ := sel_mem mr
        rcases List.mem_append.mp a with a | a
        · exact InR.mem (List.mem_append_right _ (mem_sel mx a b))
        · exact InR.mono all ((InR.plain F (room_rows S [y])).mpr (InR.mem (List.mem_append_right _ (mem_sel mx a b))))
    · rcases List.mem_append.mp mr with mr | mr
      · exact InR.mem (List.mem_append_left _ mr)
      · obtain ⟨x, mx, a, b⟩ := sel_mem mr
        exact InR.mem (List.mem_append_right _ (mem_sel mx (List.mem_append_left _ a) b))
  have subq := lesser_sub mq
  have e1 : sizeR p n kn hs (restG ms (ms.filter fun z => decide (z ∈ q) && !decide (z = y))) = sizeR p n kn hs (restG ms q ++ [y]) := size_congr fun z => by
    rw [rest_mem, List.mem_append, rest_mem, List.mem_singleton, List.mem_filter]
    simp only [Bool.and_eq_true, decide_eq_true_eq, Bool.not_eq_true', decide_eq_false_iff_not]
    constructor
    · rintro ⟨a, b⟩
      by_cases e : z = y
      · exact .inr e
      · exact .inl ⟨a, fun zq => b ⟨a, zq, e⟩⟩
    · rintro (⟨a, b⟩ | rfl)
      · exact ⟨a, fun z => b z.2.1⟩
      · exact ⟨my, fun z => z.2.2 rfl⟩
  have nk : ns.getD k 0 = ns[k]?.getD 0 := List.getD_eq_getElem?_getD
  obtain ⟨v, rfl⟩ := at_map nd hl
  have vk : (ms.map v).getD k 0 = v y := by
    rw [nk, List.getElem?_map, g]
    rfl
  have c1 := come_map (x := v) (q := q) ms
  have c2 := come_map (x := v) (q := ms.filter fun z => decide (z ∈ q) && !decide (z = y)) ms
  rw [sumP_congr (T := fun z => decide (z ∈ q) && !decide (z = y)) fun z hz => by simp [List.mem_filter, hz]] at c2
  have md := sumP_mod v (fun z => decide (z ∈ q) && !decide (z = y)) (fun z => decide (z = y)) ms
  rw [sumP_congr (S := fun z => (decide (z ∈ q) && !decide (z = y)) || decide (z = y)) (T := fun z => decide (z ∈ q)) fun z hz => by
    by_cases e : z = y
    · simp [e, yq]
    · simp [e], sumP_congr (S := fun z => (decide (z ∈ q) && !decide (z = y)) && decide (z = y)) (T := fun _ => false) fun z hz => by
    by_cases e : z = y <;> simp [e], sumP_one nd my] at md
  have z0 : sumP v ms (fun _ => false) = 0 := by
    unfold sumP
    rw [List.filter_eq_nil_iff.mpr (fun a _ => by simp)]
    rfl
  have le : sizeR p n kn hs ms - sizeR p n kn hs (restG ms (ms.filter fun z => decide (z ∈ q) && !decide (z = y))) ≤ comeR ms (ms.map v) (ms.filter fun z => decide (z ∈ q) && !decide (z = y)) := by
    by_cases e : ∃ x, x ∈ ms.filter fun z => decide (z ∈ q) && !decide (z = y)
    · exact want_le h (lesser_in List.filter_sublist e ⟨y, my, fun z => by
        have := (List.mem_filter.mp z).2
        simp at this⟩)
    · have e0 : ms.filter (fun z => decide (z ∈ q) && !decide (z = y)) = [] := by
        cases hh : ms.filter fun z => decide (z ∈ q) && !decide (z = y) with
        | nil => rfl
        | cons a r => exact absurd ⟨a, by rw [hh]; exact List.mem_cons_self⟩ e
      rw [e0]
      have r0 : restG ms [] = ms := by
        unfold restG
        simp
      have c0 := come_map (x := v) (q := []) ms
      rw [sumP_congr (T := fun _ => false) fun z _ => by simp, z0] at c0
      rw [r0, c0]
      omega
  omega
end
/-! ### five rows -/
theorem mix_plus (p t : Int) : ∀ {x y : List Int}, addR p (timesR p t x) y = plusR p y x t
  | [], [] => rfl
  | [], _ :: _ => rfl
  | _ :: _, [] => rfl
  | a :: x, b :: y => by
    have ih := mix_plus p t (x := x) (y := y)
    unfold addR timesR plusR at ih ⊢
    rw [List.map_cons, List.zipWith_cons_cons, List.zipWith_cons_cons, ih, Int.emod_add_emod, Int.add_comm]
theorem plus_two (p a b : Int) : ∀ {x y : List Int} {n : Nat}, x.length = n → y.length = n → plusR p y x b = plusR p (plusR p (List.replicate n 0) x (b - a)) (plusR p y x a) 1
  | [], [], 0, _, _ => rfl
  | c :: x, d :: y, n + 1, hx, hy => by
    have ih := plus_two p a b (x := x) (y := y) (n := n) (by simpa using hx) (by simpa using hy)
    unfold plusR at ih ⊢
    rw [List.replicate_succ, List.zipWith_cons_cons, List.zipWith_cons_cons, List.zipWith_cons_cons, List.zipWith_cons_cons, ← ih]
    congr 1
    rw [Int.one_mul, Int.emod_add_emod, Int.add_emod_emod]
    congr 1
    rw [Int.sub_mul]
    omega
theorem plus_undo (p a : Int) : ∀ {x y : List Int}, x.length = y.length → (∀ v ∈ y, 0 ≤ v ∧ v < p) → plusR p (plusR p y x a) x (-a) = y
  | [], [], _, _ => rfl
  | c :: x, d :: y, h, ok => by
    have ih := plus_undo p a (x := x) (y := y) (by simpa using h) fun v hv => ok v (List.mem_cons_of_mem _ hv)
    unfold plusR at ih ⊢
    rw [List.zipWith_cons_cons, List.zipWith_cons_cons, ih]
    congr 1
    have okd := ok d List.mem_cons_self
    rw [Int.emod_add_emod, Int.neg_mul, show d + a * c + -(a * c) = d by omega]
    exact Int.emod_eq_of_lt okd.1 okd.2
/-- the rows that are in none of the rooms, of five -/
def keepR (p : Int) (n : Nat) (Bs : List (List (List Int))) (row fresh : List Int) : List (List Int) := Bs.foldl (fun rs B => rs.filter fun r => !hasR p n B r) ((List.range 5).map fun t : Nat => plusR p fresh row (t : Int))
theorem keep_snoc {p : Int} {n : Nat} {Bs : List (List (List Int))} {B : List (List Int)} {row fresh : List Int} : keepR p n (Bs ++ [B]) row fresh = (keepR p n Bs row fresh).filter fun r => !hasR p n B r := by
  unfold keepR
  rw [List.foldl_append]
  rfl
theorem one_off {q : Nat → Bool} : ∀ {ts : List Nat}, ts.Nodup → (∀ a ∈ ts, ∀ b ∈ ts, q a = true → q b = true → a = b) → ts.length ≤ (ts.filter fun t => !q t).length + 1
  | [], _, _ => by simp
  | a :: ts, nd, h => by
    obtain ⟨n1, n2⟩ := List.nodup_cons.mp nd
    rw [List.filter_cons, List.length_cons]
    cases e : q a with
    | false =>
      have ih := one_off n2 fun x mx z mz => h x (List.mem_cons_of_mem _ mx) z (List.mem_cons_of_mem _ mz)
      simp only [Bool.not_false, if_true, List.length_cons]
      omega
    | true =>
      have : ts.filter (fun t => !q t) = ts := List.filter_eq_self.mpr fun b hb => by
        cases eb : q b with
        | false => rfl
        | true => exact absurd (h a List.mem_cons_self b (List.mem_cons_of_mem _ hb) e eb) fun z => n1 (by rw [z]; exact hb)
      simp only [Bool.not_true, Bool.false_eq_true, if_false]
      rw [this]
      omega
section
variable {p : Int} {n : Nat} {row fresh : List Int}
theorem keep_some (F : Fld p) (p5 : 5 ≤ p) (hr : RowsOk p n [row]) (hf : RowsOk p n [fresh]) : ∀ {Bs : List (List (List Int))}, (∀ B ∈ Bs, PFR p n B ∧ hasR p n B row = false) → ∃ ts : List Nat, keepR p n Bs row fresh = ts.map (fun t : Nat => plusR p fresh row (t : Int)) ∧ ts.Nodup ∧ (∀ t ∈ ts, t < 5) ∧ 5 ≤ ts.length + Bs.length ∧ ∀ B ∈ Bs, ∀ t ∈ ts, hasR p n B (plusR p fresh row (t : Int)) = false := by
  intro Bs
  have lr := (hr row List.mem_cons_self).1
  have lf := (hf fresh List.mem_cons_self).1
  have F2 := F.1
  have om : ∀ t : Nat, RowsOk p n [plusR p fresh row (t : Int)] := fun t => rowsOk_one (plus_row (by omega) lf lr _)
  suffices H : ∀ (Cs : List (List (List Int))), (∀ B ∈ Cs.reverse, PFR p n B ∧ hasR p n B row = false) → ∃ ts : List Nat, keepR p n Cs.reverse row fresh = ts.map (fun t : Nat => plusR p fresh row (t : Int)) ∧ ts.Nodup ∧ (∀ t ∈ ts, t < 5) ∧ 5 ≤ ts.length + Cs.reverse.length ∧ ∀ B ∈ Cs.reverse, ∀ t ∈ ts, hasR p n B (plusR p fresh row (t : Int)) = false by
    intro h
    have := H Bs.reverse (by rw [List.reverse_reverse]; exact h)
    rwa [List.reverse_reverse] at this
  intro Cs
  induction Cs with
  | nil => exact fun _ => ⟨List.range 5, rfl, List.nodup_range, fun t ht => List.mem_range.mp ht, by simp, fun B hB => (nomatch hB)⟩
  | cons B Cs ih =>
    intro h
    rw [List.reverse_cons] at h ⊢
    obtain ⟨ts, e, nd, lt, len, out⟩ := ih fun C hC => h C (List.mem_append_left _ hC)
    obtain ⟨pB, rB⟩ := h B (by simp)
    refine ⟨ts.filter fun t => !hasR p n B (plusR p fresh row (t : Int)), ?_, nd.filter _, fun t ht => lt t (List.mem_filter.mp ht).1, ?_, fun C hC t ht => ?_⟩
    · rw [keep_snoc, e, List.filter_map]
      rfl
    · have key := one_off (q := fun t => hasR p n B (plusR p fresh row (t : Int))) nd fun a ma b mb ha hb => by
        have inB : ∀ {a b : Nat}, a ∈ ts → b ∈ ts → hasR p n B (plusR p fresh row (a : Int)) = true → hasR p n B (plusR p fresh row (b : Int)) = true → ¬ a < b := fun {a b} ma mb ha hb lab => by
          have la := lt a ma
          have lb := lt b mb
          have ia := (hasR_in F pB.1 (om a)).mp ha
          have ib := (hasR_in F pB.1 (om b)).mp hb
          have := InR.back F (ts := B) (r := row) (own := plusR p fresh row (b : Int)) (m := (b : Int) - a) (by omega) (by omega) lr ib (.inr ⟨plusR p fresh row (a : Int), ia, (plus_row (by omega) lf lr _).1, plus_two p a b lr lf⟩)
          rw [(hasR_in F pB.1 hr).mpr this] at rB
          cases rB
        rcases Nat.lt_trichotomy a b with h | h | h
        · exact absurd h (inB ma mb ha hb)
        · exact h
        · exact absurd h (inB mb ma hb ha)
      rw [List.length_append, List.length_singleton]
      omega
    · obtain ⟨m1, m2⟩ := List.mem_filter.mp ht
      rcases List.mem_append.mp hC with hC | hC
      · exact out C hC t m1
      · rw [List.mem_singleton.mp hC]
        simpa using m2
/-- the first of these: in the hand's room, in none of the barred ones -/
theorem keep_first (F : Fld p) (p5 : 5 ≤ p) (hr : RowsOk p n [row]) (hf : RowsOk p n [fresh]) {Bs : List (List (List Int))} {B room : List (List Int)} (h : ∀ C ∈ Bs, PFR p n C ∧ hasR p n C row = false) (l4 : Bs.length ≤ 4) (pB : PFR p n B) (rB : hasR p n B row = true) (fB : hasR p n B fresh = false) (pr : PFR p n room) (rr : hasR p n room row = true) (fr : hasR p n room fresh = true) :
    ∃ r rs, keepR p n Bs row fresh = r :: rs ∧ RowsOk p n [r] ∧ hasR p n room r = true ∧ (∀ C ∈ Bs, hasR p n C r = false) ∧ hasR p n B r = false := by
  obtain ⟨ts, e, nd, lt, len, out⟩ := keep_some F p5 hr hf h
  have lr := (hr row List.mem_cons_self).1
  have okf := hf fresh List.mem_cons_self
  have F2 := F.1
  cases ts with
  | nil =>
    simp at len
    omega
  | cons t ts =>
    have om : RowsOk p n [plusR p fresh row (t : Int)] := rowsOk_one (plus_row (by omega) okf.1 lr _)
    refine ⟨_, _, e, om, (hasR_in F pr.1 om).mpr (InR.plus _ (by rw [okf.1, lr]) ((hasR_in F pr.1 hf).mp fr) ((hasR_in F pr.1 hr).mp rr)), fun C hC => out C hC t List.mem_cons_self, ?_⟩
    cases hh : hasR p n B (plusR p fresh row (t : Int)) with
    | false => rfl
    | true =>
      have ib := (hasR_in F pB.1 om).mp hh
      have := InR.plus (-(t : Int)) (by rw [(plus_row (by omega) okf.1 lr _).1, lr]) ib ((hasR_in F pB.1 hr).mp rB)
      rw [plus_undo p t (by rw [okf.1, lr]) okf.2] at this
      rw [(hasR_in F pB.1 hf).mpr this] at fB
      cases fB
end
end OC

set_option Elab.async false
set_option linter.all false
set_option maxRecDepth 100000
set_option maxHeartbeats 4000000
/-! defs with one keyword-only parameter that is None where it is not written -/
namespace OC
open PySem PySem.Spec PyProof.Rows L2
structure DfD (K : PySem.W.Frag) (mg : Str → Option Value) (x : Str) (st : Stmt) (ps : List Str) (dvs : List V) : Prop where
  ex : ∃ (f : Addr) (fd : FuncData) (ds : List Value), Fun K x x st f fd ∧ Vals dvs ds ∧ Binds K fd ps ds ∧ mg x = some (.ref f)
structure OkD (P : Program) (w : World) (K : PySem.W.Frag) (mg : Str → Option Value) (base : Heap) (k : Nat) (x : Str) (ps : List Str) (dvs : List V) (sp : Sp) : Prop where
  ex : ∃ (f : Addr) (fd : FuncData) (ds : List Value), FnOk P w K mg base CX0 k f fd ps sp ∧ mg x = some (.ref f) ∧ PySem.W.keepIn K (.ref f) = true ∧ Vals dvs ds ∧ Binds K fd ps ds
section
variable {P : Program} {w : World} {K : PySem.W.Frag} {mg : Str → Option Value} {base : Heap}
theorem DfD.ok {x : Str} {st : Stmt} {N ps : List Str} {dvs : List V} {k : Nat} {sp : Sp} (D : DfD K mg x st ps dvs) (S : FnScope N ps (defScope st)) (len : ∀ vs H Q E, sp vs H Q E → vs.length = ps.length)
    (hbody : ∀ (f : Addr) (cdv : Value) (A : Around) (outer : List Env) (s : Shared) (H : Hp) (vs : List V) (Q : VK) (E : XK), Room k (A.deeper (envOfC x (defScope st) s.heap.objs.size f cdv)) → sp vs H Q E →
      ∃ t, PSs (cxOf CX0 P w K mg base N x (defScope st) f cdv A outer s H E).nox (defBody st) t ∧ t { nx := fun _ H' => Q .non H', rt := Q } (start N vs) H) : OkD P w K mg base (k + 1) x ps dvs sp := by
  obtain ⟨f, fd, ds, F, v, b, g⟩ := D.ex
  exact ⟨f, fd, ds, F.ok S len (hbody f), g, F.kp, v, b⟩
theorem OkD.mono {x : Str} {ps : List Str} {dvs : List V} {j k : Nat} {sp : Sp} (O : OkD P w K mg base j x ps dvs sp) (h : j ≤ k) : OkD P w K mg base k x ps dvs sp := by
  obtain ⟨f, fd, ds, F, r⟩ := O.ex
  exact ⟨f, fd, ds, F.mono h, r⟩
end
section
variable {X : Cx} {x : Str} {ps : List Str} {dvs : List V} {k : Nat} {sp : Sp}
theorem pe_callD {e : Expr} {es : List Expr} {t : TA} {p pos : Pos} (O : OkD X.prog X.w X.K X.mg X.base k x ps dvs sp) (hr : Room k X.A) (hg : Gl X x) (ha : PA X (e :: es) t) (hdb : (x == ("__debug__" : Str)) = false := by decide)
    (a1 : starEach (e :: es) X.env = (false, eval e X.env) :: starEach es X.env := by rfl) (a2 : (backTo pos (starEach es X.env)).any (·.1) = false := by rfl) :
    PE X (.Call (.Name x p) (e :: es) [] pos) (tCall sp dvs E0 t) := by
  obtain ⟨f, fd, ds, F, g, kp, v, b⟩ := O.ex
  exact pe_call F hr hg g kp b v pass0 ha hdb a1 a2
end
theorem dfD_of {K : PySem.W.Frag} {h : Heap} {mg : Str → Option Value} {x y : Str} {st : Stmt} {ps : List Str} {n : Nat} {f D : Addr} {oc : Value} {od an : Option Addr} {osl : Array (Option Value)} {kV doc pm cdv ct : Value} (X : K.In h) (G : h.Ns mainGlobals mg)
    (a : PySem.W.nsIn K mainGlobals x = some (some (.ref f)))
    (l : K.lookup f = some ⟨oc, od, .func (PySem.W.fnOf x x (defArgs st) (defBody st) (defScope st) .none kV doc pm an cdv ct), osl⟩)
    (c : PySem.W.codeIn K cdv x = true) (k : PySem.W.keepIn K (.ref f) = true) (hk : kV = .ref D) (hd : PySem.W.nsIn K D y = some (some .none))
    (hb : ∀ (D : Addr) (doc pm : Value) (an : Option Addr) (cdv ct : Value) (us : List Value), us.length = n → KwChain D [(y, Value.none)] (bindArgs (PySem.W.fnOf x x (defArgs st) (defBody st) (defScope st) .none (.ref D) doc pm an cdv ct) ⟨us, []⟩) (ps.zip (us ++ [Value.none])))
    (hn : n + 1 = ps.length := by rfl) : DfD K mg x st ps [.non] := by
  subst hk
  have F := fun_mk (st := st) l c k
  refine ⟨f, _, [.none], F, .cons rfl .nil, fun s us X hl => ?_, PySem.W.mg_of X G a⟩
  rw [List.length_append, List.length_singleton] at hl
  refine BindsTo.of_looks fun M => KwChain.looks X (fun q hq => ?_) (hb D doc pm an cdv ct us (by omega))
  rw [List.mem_singleton.mp hq]
  exact hd
end OC

set_option Elab.async false
set_option linter.all false
set_option maxRecDepth 100000
set_option maxHeartbeats 4000000
/-! calls one behind another -/
namespace OC
open PySem PySem.Spec PyProof.Rows L2 PySem.W
/-- the numbers, the hand's own less one -/
def oneL (ms : List Str) (g : Str → Int) (y : Str) : List Int := ms.map fun m => if m = y then g m - 1 else g m
/-- what a call of a hand must be: its own row, none of the groups that wait for it knows it -/
structure SafeR (p : Int) (n : Nat) (kn : List (List Int)) (hs : List (Str × List (List Int))) (ms : List Str) (ns : List Int) (y : Str) (row : List Int) : Prop where
  ok : RowsOk p n [row]
  own : hasR p n (roomR p n kn hs [y]) row = true
  safe : ∀ q ∈ lesserR ms, y ∈ q → comeR ms ns q = sizeR p n kn hs ms - sizeR p n kn hs (restG ms q) → hasR p n (roomR p n kn hs (restG ms q)) row = false
theorem map_off {g h : Str → Int} {y : Str} {l : List Str} (ny : y ∉ l) (e : ∀ m, m ≠ y → h m = g m) : l.map h = l.map g := List.map_congr_left fun m hm => e m fun z => ny (by rw [← z]; exact hm)
theorem less_map {g : Str → Int} {y : Str} : ∀ {ms : List Str} {k : Nat}, ms.Nodup → ms[k]? = some y → lessN (ms.map g) k = oneL ms g y
  | x :: ms, 0, nd, e => by
    cases e
    obtain ⟨nx, _⟩ := List.nodup_cons.mp nd
    unfold lessN oneL
    rw [List.map_cons, List.map_cons, if_pos rfl, List.take_zero, List.nil_append, List.getD_cons_zero, List.drop_succ_cons, List.drop_zero]
    congr 1
    exact (map_off nx fun m hm => if_neg hm).symm
  | x :: ms, k + 1, nd, e => by
    obtain ⟨nx, nd'⟩ := List.nodup_cons.mp nd
    have e : ms[k]? = some y := by simpa using e
    have ih := less_map (g := g) nd' e
    have ne : ¬ x = y := fun z => nx (by rw [z]; exact List.mem_of_getElem? e)
    unfold lessN oneL at ih ⊢
    rw [List.map_cons, List.map_cons, if_neg ne, List.take_succ_cons, List.drop_succ_cons, List.getD_cons_succ, List.cons_append, ih]
section
variable {p : Int} {n : Nat} {kn : List (List Int)} {hs : List (Str × List (List Int))} {ms : List Str} {g : Str → Int} {k : Nat} {y : Str} {row : List Int}
/-- the numbers behind a safe call leave none wanting, and one call less is left -/
theorem plan_step (S : Stand5 p n kn hs) (nd : ms.Nodup) (l2 : 2 ≤ ms.length) (hf : firstW ms (ms.map g) (wantsR (sizeR p n kn hs) ms) = none) (hsum : (ms.map g).sum = fewR (sizeR p n kn hs) ms) (gk : ms[k]? = some y) (sf : SafeR p n kn hs ms (ms.map g) y row) :
    firstW ms (oneL ms g y) (wantsR (sizeR p n (plainR p n (kn ++ [row])) (heardH p n row hs)) ms) = none ∧ fewR (sizeR p n (plainR p n (kn ++ [row])) (heardH p n row hs)) ms = fewR (sizeR p n kn hs) ms - 1 := by
  have S' := S.heard sf.ok
  have hl : ms.length = (ms.map g).length := (List.length_map _).symm
  have sz := fun q => size_heard S sf.ok q
  have mono : ∀ q q' : List Str, (∀ x ∈ q, x ∈ q') → hasR p n (roomR p n kn hs q) row = true → hasR p n (roomR p n kn hs q') row = true := fun q q' h e => has_more S sf.ok h e
  have f1 := feas_behind (In := fun q => hasR p n (roomR p n kn hs q) row) sz mono sf.own hl hf gk sf.safe
  have mono' : ∀ q, sizeR p n (plainR p n (kn ++ [row])) (heardH p n row hs) (restG ms q) ≤ sizeR p n (plainR p n (kn ++ [row])) (heardH p n row hs) ms := fun q => size_mono S'.toR fun y hy => (List.mem_filter.mp hy).1
  obtain ⟨x, mx, hx⟩ := omni nd l2 mono' (size_subm S' ms)
  obtain ⟨r0, _⟩ := few_range (f := sizeR p n (plainR p n (kn ++ [row])) (heardH p n row hs)) (ms := ms) (fun q => size_pos S' q) (fun q => size_le S' q) nd l2 mono' (fun x hx => size_mono S'.toR fun y hy => by rw [List.mem_singleton.mp hy]; exact hx)
  obtain ⟨lx, sx, _⟩ := tup_mem r0 mx
  have f2 := few_behind (In := fun q => hasR p n (roomR p n kn hs q) row) sz mono sf.own nd l2 hl gk f1 hsum (by omega) hx sx
  rw [less_map nd gk] at f1
  exact ⟨f1, f2⟩
end
/-! ### behind some calls -/
def kAft (p : Int) (n : Nat) (kn : List (List Int)) (cs : List (Str × List Int)) : List (List Int) := cs.foldl (fun k c => plainR p n (k ++ [c.2])) kn
def hAft (p : Int) (n : Nat) (hs : List (Str × List (List Int))) (cs : List (Str × List Int)) : List (Str × List (List Int)) := cs.foldl (fun h c => heardH p n c.2 h) hs
theorem kAft_snoc {p : Int} {n : Nat} {kn : List (List Int)} {cs : List (Str × List Int)} {c : Str × List Int} : kAft p n kn (cs ++ [c]) = plainR p n (kAft p n kn cs ++ [c.2]) := by
  unfold kAft
  rw [List.foldl_append]
  rfl
theorem hAft_snoc {p : Int} {n : Nat} {hs : List (Str × List (List Int))} {cs : List (Str × List Int)} {c : Str × List Int} : hAft p n hs (cs ++ [c]) = heardH p n c.2 (hAft p n hs cs) := by
  unfold hAft
  rw [List.foldl_append]
  rfl
/-- how much is known behind some calls -/
def sAft (p : Int) (n : Nat) (kn : List (List Int)) (hs : List (Str × List (List Int))) (cs : List (Str × List Int)) : List Str → Int := sizeR p n (kAft p n kn cs) (hAft p n hs cs)
/-- calls of the group, each known to its hand behind those ahead, each leaves one call less -/
def StepsR (p : Int) (n : Nat) (kn : List (List Int)) (hs : List (Str × List (List Int))) (ms : List Str) (cs : List (Str × List Int)) : Prop := ∀ i x r, cs[i]? = some (x, r) →
  x ∈ ms ∧ RowsOk p n [r] ∧ hasR p n (roomR p n (kAft p n kn (cs.take i)) (hAft p n hs (cs.take i)) [x]) r = true ∧ fewR (sAft p n kn hs (cs.take (i + 1))) ms = fewR (sAft p n kn hs (cs.take i)) ms - 1
theorem StepsR.snoc {p : Int} {n : Nat} {kn : List (List Int)} {hs : List (Str × List (List Int))} {ms : List Str} {cs : List (Str × List Int)} {x : Str} {r : List Int} (h : StepsR p n kn hs ms cs) (m : x ∈ ms) (ok : RowsOk p n [r]) (own : hasR p n (roomR p n (kAft p n kn cs) (hAft p n hs cs) [x]) r = true) (few : fewR (sAft p n kn hs (cs ++ [(x, r)])) ms = fewR (sAft p n kn hs cs) ms - 1) : StepsR p n kn hs ms (cs ++ [(x, r)]) := fun i y t e => by
  rcases Nat.lt_trichotomy i cs.length with lt | eq | gt
  · rw [List.getElem?_append_left lt] at e
    rw [List.take_append_of_le_length (by omega), List.take_append_of_le_length (by omega)]
    exact h i y t e
  · subst eq
    rw [List.getElem?_append_right (Nat.le_refl _), Nat.sub_self] at e
    cases e
    rw [List.take_append_of_le_length (Nat.le_refl _), List.take_length, List.take_of_length_le (by simp)]
    exact ⟨m, ok, own, few⟩
  · rw [List.getElem?_eq_none (by rw [List.length_append]; simp; omega)] at e
    cases e
/-- a plan -/
structure PlanR (p : Int) (n : Nat) (kn : List (List Int)) (hs : List (Str × List (List Int))) (ms : List Str) (cs : List (Str × List Int)) : Prop where
  steps : StepsR p n kn hs ms cs
  len : (cs.length : Int) = fewR (sizeR p n kn hs) ms
  zero : fewR (sAft p n kn hs cs) ms = 0
/-! ### the callers one behind another -/
/-- each hand as often as its number -/
def ordR (ms : List Str) (z : List Int) : List Str := (ms.zip z).flatMap fun x => List.replicate x.2.toNat x.1
theorem ord_map {x : Str → Int} : ∀ ms : List Str, ordR ms (ms.map x) = ms.flatMap fun y => List.replicate (x y).toNat y
  | [] => rfl
  | y :: ms => by
    have ih := ord_map (x := x) ms
    unfold ordR at ih ⊢
    rw [List.map_cons, List.zip_cons_cons, List.flatMap_cons, List.flatMap_cons, ih]
theorem ord_count {x : Str → Int} {y : Str} : ∀ {ms : List Str}, ms.Nodup → (ms.flatMap fun y => List.replicate (x y).toNat y).count y = if y ∈ ms then (x y).toNat else 0
  | [], _ => by simp
  | m :: ms, nd => by
    obtain ⟨nm, nd'⟩ := List.nodup_cons.mp nd
    have ih := ord_count (x := x) (y := y) nd'
    rw [List.flatMap_cons, List.count_append, ih, List.count_replicate]
    by_cases e : m = y
    · subst e
      simp [nm]
    · have : ¬ y = m := fun z => e z.symm
      simp [e, this]
theorem ord_len {x : Str → Int} : ∀ {ms : List Str}, (∀ y ∈ ms, 0 ≤ x y) → ((ms.flatMap fun y => List.replicate (x y).toNat y).length : Int) = (ms.map x).sum
  | [], _ => rfl
  | m :: ms, h => by
    have ih := ord_len (x := x) (ms := ms) fun y hy => h y (List.mem_cons_of_mem _ hy)
    have hm := h m List.mem_cons_self
    rw [List.flatMap_cons, List.length_append, List.length_replicate, List.map_cons, List.sum_cons, Int.natCast_add, ih]
    omega
theorem ord_mem {x : Str → Int} {y : Str} {ms : List Str} (h : y ∈ ms.flatMap fun y => List.replicate (x y).toNat y) : y ∈ ms := by
  obtain ⟨m, mm, hy⟩ := List.mem_flatMap.mp h
  rw [(List.mem_replicate.mp hy).2]
  exact mm
theorem count_sum {ms : List Str} (nd : ms.Nodup) : ∀ {l : List Str}, (∀ y ∈ l, y ∈ ms) → (ms.map fun y => (l.count y : Int)).sum = l.length
  | [], _ => by
    have : ms.map (fun y => (([] : List Str).count y : Int)) = ms.map fun _ => 0 := List.map_congr_left fun _ _ => by simp
    rw [this]
    clear this nd
    induction ms with
    | nil => rfl
    | cons a r ih =>
      rw [List.map_cons, List.sum_cons, ih (fun _ z => nomatch z)]
      simp
  | a :: l, h => by
    have ih := count_sum nd (l := l) fun y hy => h y (List.mem_cons_of_mem _ hy)
    have e : ms.map (fun y => ((a :: l).count y : Int)) = ms.map fun y => (l.count y : Int) + if y = a then 1 else 0 := List.map_congr_left fun y _ => by
      rw [List.count_cons]
      by_cases z : y = a
      · subst z
        simp
      · have : ¬ a = y := fun w => z w.symm
        simp [z, this]
    have key : ∀ {ms : List Str} {f : Str → Int}, ms.Nodup → a ∈ ms → (ms.map fun y => f y + if y = a then 1 else 0).sum = (ms.map f).sum + 1 := fun {ms f} nd ma => by
      induction ms with
      | nil => cases ma
      | cons m ms ih =>
        obtain ⟨nm, nd'⟩ := List.nodup_cons.mp nd
        rw [List.map_cons, List.map_cons, List.sum_cons, List.sum_cons]
        by_cases em : m = a
        · rw [if_pos em]
          rw [List.map_congr_left (g := f) fun y hy => by
            rw [if_neg fun z => nm (by rw [em, ← z]; exact hy), Int.add_zero]]
          omega
        · rw [if_neg em]
          have := ih nd' ((List.mem_cons.mp ma).resolve_left fun z => em z.symm)
          omega
    rw [e, key nd (h a List.mem_cons_self), ih, List.length_cons]
    omega
theorem count_less {l : List Str} {a : Str} (ms : List Str) : oneL ms (fun y => ((a :: l).count y : Int)) a = ms.map fun y => (l.count y : Int) := by
  unfold oneL
  refine List.map_congr_left fun y _ => ?_
  show (if y = a then ((a :: l).count y : Int) - 1 else ((a :: l).count y : Int)) = _
  rw [List.count_cons]
  by_cases z : y = a
  · subst z
    simp
  · have : ¬ a = y := fun w => z w.symm
    simp [z, this]
end OC

set_option Elab.async false
set_option linter.all false
set_option maxRecDepth 100000
set_option maxHeartbeats 4000000
/-! plans that hold; no plan is shorter -/
namespace OC
open PySem PySem.Spec PyProof.Rows L2 PySem.W
/-- whether calls of rows are a plan -/
def holdsP (p : Int) (n : Nat) (ms : List Str) : List (List Int) → List (Str × List (List Int)) → List (Str × List Int) → Bool
  | kn, hs, [] => ms.all fun x => decide (sizeR p n kn hs [x] = sizeR p n kn hs ms)
  | kn, hs, c :: cs => decide (c.1 ∈ ms) && (hasR p n (roomR p n kn hs [c.1]) c.2 && holdsP p n ms (plainR p n (kn ++ [c.2])) (heardH p n c.2 hs) cs)
section
variable {p : Int} {n : Nat} {kn : List (List Int)} {hs : List (Str × List (List Int))} {ms : List Str} {y : Str} {row : List Int}
theorem one_le (S : Stand5 p n kn hs) {x : Str} (h : x ∈ ms) : sizeR p n kn hs [x] ≤ sizeR p n kn hs ms := size_mono S.toR fun y hy => by rw [List.mem_singleton.mp hy]; exact h
theorem few_zero (S : Stand5 p n kn hs) (nd : ms.Nodup) (l2 : 2 ≤ ms.length) : 0 ≤ fewR (sizeR p n kn hs) ms := (few_range (f := sizeR p n kn hs) (ms := ms) (fun q => size_pos S q) (fun q => size_le S q) nd l2 (fun q => size_mono S.toR fun y hy => (List.mem_filter.mp hy).1) (fun x hx => one_le S hx)).1
/-- a group that is at one needs no call -/
theorem few_of_one (S : Stand5 p n kn hs) (nd : ms.Nodup) (l2 : 2 ≤ ms.length) (h : ∀ x ∈ ms, sizeR p n kn hs [x] = sizeR p n kn hs ms) : fewR (sizeR p n kn hs) ms = 0 := by
  have m := top_mem (xs := (partingsR ms).map (boundG (sizeR p n kn hs) ms)) (by rw [List.length_map]; exact partings_pos l2)
  obtain ⟨P, mP, e⟩ := List.mem_map.mp m
  unfold fewR
  rw [← e]
  have gt := (partings_mem.mp mP).2
  have os := splits_ok (partings_mem.mp mP).1
  have all : ∀ q ∈ P, sizeR p n kn hs q = sizeR p n kn hs ms := fun q hq => by
    have sub := split_sub (partings_mem.mp mP).1 hq
    obtain ⟨x, hx⟩ : ∃ x, x ∈ q := by
      cases q with
      | nil => exact absurd rfl (os.ne _ hq)
      | cons a r => exact ⟨a, List.mem_cons_self⟩
    have a := one_le (ms := q) S hx
    have b := size_mono S.toR (ns := q) (ms := ms) fun y hy => sub.subset hy
    have c := h x (sub.subset hx)
    omega
  have es : P.map (sizeR p n kn hs) = P.map fun _ => sizeR p n kn hs ms := List.map_congr_left all
  have sum : ∀ (P : List (List Str)) (z : Int), (P.map fun _ => z).sum = P.length * z := fun P z => by
    induction P with
    | nil => simp
    | cons a P ih =>
      rw [List.map_cons, List.sum_cons, ih, List.length_cons, Int.natCast_add, Int.add_mul]
      simp only [Int.cast_ofNat_Int, Int.one_mul]
      omega
  unfold boundG boundOf
  rw [es, sum, List.length_map]
  generalize sizeR p n kn hs ms = z
  have : (P.length : Int) * z - z = z * ((P.length : Int) - 1) := by
    rw [Int.mul_sub, Int.mul_one, Int.mul_comm]
  rw [this, Int.mul_ediv_cancel _ (by omega)]
  omega
theorem one_of_few (S : Stand5 p n kn hs) (nd : ms.Nodup) (l2 : 2 ≤ ms.length) (h : fewR (sizeR p n kn hs) ms = 0) : ∀ x ∈ ms, sizeR p n kn hs [x] = sizeR p n kn hs ms := fun x hx => by
  have a := few_apart (f := sizeR p n kn hs) nd hx l2 (size_mono S.toR fun y hy => (List.mem_filter.mp hy).1)
  have b := one_le S hx
  omega
/-- no call takes more than one of those that are left -/
theorem call_low (S : Stand5 p n kn hs) (nd : ms.Nodup) (l2 : 2 ≤ ms.length) (ok : RowsOk p n [row]) (my : y ∈ ms) (own : hasR p n (roomR p n kn hs [y]) row = true) : fewR (sizeR p n kn hs) ms ≤ fewR (sizeR p n (plainR p n (kn ++ [row])) (heardH p n row hs)) ms + 1 := by
  have S' := S.heard ok
  obtain ⟨k, g⟩ := List.mem_iff_getElem?.mp my
  have hk : k < ms.length := (List.getElem?_eq_some_iff.mp g).1
  have mono' : ∀ q, sizeR p n (plainR p n (kn ++ [row])) (heardH p n row hs) (restG ms q) ≤ sizeR p n (plainR p n (kn ++ [row])) (heardH p n row hs) ms := fun q => size_mono S'.toR fun y hy => (List.mem_filter.mp hy).1
  obtain ⟨x, mx, hx⟩ := omni nd l2 mono' (size_subm S' ms)
  obtain ⟨lx, sx, _⟩ := tup_mem (few_zero S' nd l2) mx
  have lx : ms.length = x.length := by omega
  have hm := size_heard S ok ms
  rw [if_pos (has_more S ok (q := [y]) (fun x hx => by rw [List.mem_singleton.mp hx]; exact my) own)] at hm
  have b : firstW ms (setN x k (x.getD k 0 + 1)) (wantsR (sizeR p n kn hs) ms) = none := firstW_of fun w hw => by
    obtain ⟨q, mq, rfl⟩ := List.mem_map.mp hw
    have h1 := firstW_none hx (q, sizeR p n (plainR p n (kn ++ [row])) (heardH p n row hs) ms - sizeR p n (plainR p n (kn ++ [row])) (heardH p n row hs) (restG ms q)) (List.mem_map.mpr ⟨q, mq, rfl⟩)
    have hr := size_heard S ok (restG ms q)
    have c := come_set (q := q) (a := x.getD k 0 + 1) lx g
    dsimp only at h1 ⊢
    by_cases m : y ∈ q
    · rw [if_pos m] at c
      generalize (if hasR p n kn row = true then (0 : Int) else 1) = k0 at hm hr
      split at hr <;> omega
    · rw [if_neg m] at c
      rw [if_pos (has_more S ok (q := [y]) (q' := restG ms q) (fun x hx => by rw [List.mem_singleton.mp hx]; exact rest_mem.mpr ⟨my, m⟩) own)] at hr
      omega
  have d := least_low nd l2 (by rw [setN_len (by omega)]; exact lx) b
  rw [setN_sum (by omega)] at d
  omega
/-- no plan is shorter -/
theorem holds_len (nd : ms.Nodup) (l2 : 2 ≤ ms.length) : ∀ {cs : List (Str × List Int)} {kn : List (List Int)} {hs : List (Str × List (List Int))}, Stand5 p n kn hs → (∀ c ∈ cs, RowsOk p n [c.2]) → holdsP p n ms kn hs cs = true → fewR (sizeR p n kn hs) ms ≤ cs.length
  | [], kn, hs, S, _, h => by
    unfold holdsP at h
    rw [few_of_one S nd l2 fun x hx => of_decide_eq_true (List.all_eq_true.mp h x hx)]
    exact Int.le_refl 0
  | c :: cs, kn, hs, S, ok, h => by
    unfold holdsP at h
    simp only [Bool.and_eq_true, decide_eq_true_eq] at h
    obtain ⟨h1, h2, h3⟩ := h
    have okc := ok c List.mem_cons_self
    have a := holds_len nd l2 (S.heard okc) (fun d hd => ok d (List.mem_cons_of_mem _ hd)) h3
    have b := call_low S nd l2 okc h1 h2
    rw [List.length_cons]
    omega
/-- a call that leaves one less is new to the listener -/
theorem call_new (S : Stand5 p n kn hs) (ok : RowsOk p n [row]) (few : fewR (sizeR p n (plainR p n (kn ++ [row])) (heardH p n row hs)) ms = fewR (sizeR p n kn hs) ms - 1) : hasR p n kn row = false := by
  cases e : hasR p n kn row with
  | false => rfl
  | true =>
    have : sizeR p n (plainR p n (kn ++ [row])) (heardH p n row hs) = sizeR p n kn hs := funext fun q => by
      rw [size_heard S ok q, if_pos e, if_pos (has_more S ok (q := []) (q' := q) (fun x hx => (nomatch hx)) (by rw [room_nil S]; exact e))]
      omega
    rw [this] at few
    omega
theorem size_call (S : Stand5 p n kn hs) (ok : RowsOk p n [row]) (my : y ∈ ms) (own : hasR p n (roomR p n kn hs [y]) row = true) (nw : hasR p n kn row = false) : sizeR p n (plainR p n (kn ++ [row])) (heardH p n row hs) ms = sizeR p n kn hs ms - 1 := by
  rw [size_heard S ok ms, nw, if_pos (has_more S ok (q := [y]) (fun x hx => by rw [List.mem_singleton.mp hx]; exact my) own)]
  simp
/-- a parting's bound falls by one at most -/
theorem bound_fall (S : Stand5 p n kn hs) (ok : RowsOk p n [row]) (my : y ∈ ms) (own : hasR p n (roomR p n kn hs [y]) row = true) (nw : hasR p n kn row = false) {P : List (List Str)} (mP : P ∈ partingsR ms) : boundG (sizeR p n kn hs) ms P - 1 ≤ boundG (sizeR p n (plainR p n (kn ++ [row])) (heardH p n row hs)) ms P := by
  have gt := (partings_mem.mp mP).2
  have os := splits_ok (partings_mem.mp mP).1
  have hm := size_call S ok my own nw
  have le : ∀ q : List Str, sizeR p n (plainR p n (kn ++ [row])) (heardH p n row hs) q ≤ sizeR p n kn hs q := fun q => by
    rw [size_heard S ok q, nw]
    split <;> simp
    omega
  have sum : ∀ Q : List (List Str), (Q.map (sizeR p n (plainR p n (kn ++ [row])) (heardH p n row hs))).sum ≤ (Q.map (sizeR p n kn hs)).sum ∧ ((∃ q ∈ Q, y ∈ q) → (Q.map (sizeR p n (plainR p n (kn ++ [row])) (heardH p n row hs))).sum ≤ (Q.map (sizeR p n kn hs)).sum - 1) := fun Q => by
    induction Q with
    | nil => exact ⟨Int.le_refl _, fun ⟨q, hq, _⟩ => (nomatch hq)⟩
    | cons a Q ih =>
      have la := le a
      simp only [List.map_cons, List.sum_cons]
      refine ⟨by omega, fun ⟨q, hq, yq⟩ => ?_⟩
      rcases List.mem_cons.mp hq with rfl | hq
      · have := size_call (ms := q) S ok yq own nw
        omega
      · have := ih.2 ⟨q, hq, yq⟩
        omega
  have sP := (sum P).2 (by
    have := os.pm.mem_iff.mpr my
    obtain ⟨q, hq, yq⟩ := List.mem_flatten.mp this
    exact ⟨q, hq, yq⟩)
  unfold boundG boundOf
  rw [List.length_map, List.length_map, hm]
  have := Int.ediv_le_ediv (show (0 : Int) < (P.length : Int) - 1 by omega) (show (P.map (sizeR p n (plainR p n (kn ++ [row])) (heardH p n row hs))).sum - (sizeR p n kn hs ms - 1) ≤ (P.map (sizeR p n kn hs)).sum - sizeR p n kn hs ms by omega)
  omega
end
section
variable {p : Int} {n : Nat} {kn : List (List Int)} {hs : List (Str × List (List Int))} {ms : List Str} {cs : List (Str × List Int)}
theorem take_snoc {i : Nat} {c : Str × List Int} (g : cs[i]? = some c) : cs.take (i + 1) = cs.take i ++ [c] := by
  rw [List.take_add_one, g]
  rfl
theorem aft_stand (S : Stand5 p n kn hs) (h : StepsR p n kn hs ms cs) : ∀ i, i ≤ cs.length → Stand5 p n (kAft p n kn (cs.take i)) (hAft p n hs (cs.take i))
  | 0, _ => S
  | i + 1, hi => by
    obtain ⟨x, r, g⟩ : ∃ x r, cs[i]? = some (x, r) := ⟨_, _, List.getElem?_eq_getElem (by omega)⟩
    rw [take_snoc g, kAft_snoc, hAft_snoc]
    exact (aft_stand S h i (by omega)).heard (h i x r g).2.1
theorem aft_names {hs : List (Str × List (List Int))} : ∀ cs : List (Str × List Int), (hAft p n hs cs).map Prod.fst = hs.map Prod.fst := fun cs => by
  unfold hAft
  induction cs generalizing hs with
  | nil => rfl
  | cons c cs ih =>
    rw [List.foldl_cons, ih, heard_names]
/-- what is told behind the first so many calls of a plan -/
structure AtR (p : Int) (n : Nat) (kn : List (List Int)) (hs : List (Str × List (List Int))) (ms : List Str) (cs : List (Str × List Int)) (i : Nat) : Prop where
  ok : Stand5 p n (kAft p n kn (cs.take i)) (hAft p n hs (cs.take i))
  few : fewR (sAft p n kn hs (cs.take i)) ms = (cs.length : Int) - i
  all : sAft p n kn hs (cs.take i) ms = sizeR p n kn hs ms - i
  bd : ∀ P ∈ partingsR ms, boundG (sizeR p n kn hs) ms P = fewR (sizeR p n kn hs) ms → boundG (sAft p n kn hs (cs.take i)) ms P = (cs.length : Int) - i
theorem PlanR.at (S : Stand5 p n kn hs) (h : PlanR p n kn hs ms cs) : ∀ i, i ≤ cs.length → AtR p n kn hs ms cs i
  | 0, _ => ⟨S, by
      show fewR (sizeR p n kn hs) ms = _
      rw [← h.len]
      omega, by
      show sizeR p n kn hs ms = _
      omega, fun P mP e => by
      show boundG (sizeR p n kn hs) ms P = _
      rw [e, ← h.len]
      omega⟩
  | i + 1, hi => by
    have ih := h.at S i (by omega)
    obtain ⟨x, r, g⟩ : ∃ x r, cs[i]? = some (x, r) := ⟨_, _, List.getElem?_eq_getElem (by omega)⟩
    obtain ⟨mx, ok, own, few⟩ := h.steps i x r g
    have e : sAft p n kn hs (cs.take (i + 1)) = sizeR p n (plainR p n (kAft p n kn (cs.take i) ++ [r])) (heardH p n r (hAft p n hs (cs.take i))) := by
      unfold sAft
      rw [take_snoc g, kAft_snoc, hAft_snoc]
    have e0 : sAft p n kn hs (cs.take i) = sizeR p n (kAft p n kn (cs.take i)) (hAft p n hs (cs.take i)) := rfl
    have f1 := ih.few
    have f2 := ih.all
    rw [e, e0] at few
    rw [e0] at f1 f2
    have nw := call_new ih.ok ok few
    have sz := size_call ih.ok ok mx own nw
    refine ⟨?_, ?_, ?_, fun P mP eP => ?_⟩
    · rw [take_snoc g, kAft_snoc, hAft_snoc]
      exact ih.ok.heard ok
    · rw [e, few]
      omega
    · rw [e, sz]
      omega
    · have b := ih.bd P mP eP
      rw [e0] at b
      have c := bound_fall ih.ok ok mx own nw mP
      have d := few_le (f := sAft p n kn hs (cs.take (i + 1))) mP
      rw [e] at d ⊢
      omega
/-- what is left of a plan holds -/
theorem PlanR.holds (S : Stand5 p n kn hs) (nd : ms.Nodup) (l2 : 2 ≤ ms.length) (h : PlanR p n kn hs ms cs) : ∀ (j i : Nat), i + j = cs.length → holdsP p n ms (kAft p n kn (cs.take i)) (hAft p n hs (cs.take i)) (cs.drop i) = true
  | 0, i, e => by
    have a := h.at S i (by omega)
    rw [List.drop_of_length_le (by omega)]
    unfold holdsP
    refine List.all_eq_true.mpr fun x hx => decide_eq_true (one_of_few a.ok nd l2 ?_ x hx)
    have := a.few
    unfold sAft at this
    omega
  | j + 1, i, e => by
    have ih := h.holds S nd l2 j (i + 1) (by omega)
    have hi : i < cs.length := by omega
    obtain ⟨x, r, g⟩ : ∃ x r, cs[i]? = some (x, r) := ⟨_, _, List.getElem?_eq_getElem hi⟩
    have ec : cs[i] = (x, r) := Option.some.inj ((List.getElem?_eq_getElem hi).symm.trans g)
    rw [List.drop_eq_getElem_cons hi, ec]
    obtain ⟨mx, ok, own, few⟩ := h.steps i x r g
    unfold holdsP
    rw [take_snoc g, kAft_snoc, hAft_snoc] at ih
    simp only [Bool.and_eq_true, decide_eq_true_eq]
    exact ⟨mx, own, ih⟩
/-- without its first call what is left of a plan does not hold -/
theorem PlanR.short (S : Stand5 p n kn hs) (nd : ms.Nodup) (l2 : 2 ≤ ms.length) (h : PlanR p n kn hs ms cs) {i : Nat} (hi : i < cs.length) : holdsP p n ms (kAft p n kn (cs.take i)) (hAft p n hs (cs.take i)) (cs.drop (i + 1)) = false := by
  have a := h.at S i (by omega)
  cases e : holdsP p n ms (kAft p n kn (cs.take i)) (hAft p n hs (cs.take i)) (cs.drop (i + 1)) with
  | false => rfl
  | true =>
    have := holds_len nd l2 a.ok (fun c hc => by
      obtain ⟨k, g⟩ := List.mem_iff_getElem?.mp (List.mem_of_mem_drop hc)
      obtain ⟨x, r⟩ := c
      exact (h.steps k x r g).2.1) e
    have f := a.few
    unfold sAft at f
    rw [List.length_drop] at this
    omega
end
end OC

set_option Elab.async false
set_option linter.all false
/-! texts sorted: a sorted choice of them is a part in their order -/
namespace OC
open PySem PySem.Spec PyProof.Rows L2
theorem pw_rising : ∀ (l : List Str) (p : Str), risingS p l = true → (p :: l).Pairwise (fun a b => a.cps.toList ≤ b.cps.toList)
  | [], p, _ => List.pairwise_singleton _ _
  | x :: r, p, h => by
    unfold risingS at h
    rw [Bool.and_eq_true, ltCps_eq] at h
    have h1 : p.cps.toList ≤ x.cps.toList := List.not_lt.mp (by simpa using h.1)
    have ih := pw_rising r x h.2
    refine List.pairwise_cons.mpr ⟨fun y hy => ?_, ih⟩
    rcases List.mem_cons.mp hy with rfl | hy
    · exact h1
    · exact List.le_trans h1 ((List.pairwise_cons.mp ih).1 y hy)
theorem pw_sorted : ∀ (l : List Str), sortedS l = true → l.Pairwise (fun a b => a.cps.toList ≤ b.cps.toList)
  | [], _ => .nil
  | x :: r, h => pw_rising r x h
theorem sub_sorted {xs ys : List Str} (hx : sortedS xs = true) (nx : xs.Nodup) (hy : sortedS ys = true) (ny : ys.Nodup) (h : ∀ y ∈ ys, y ∈ xs) : ys.Sublist xs := by
  have e : xs.filter (fun x => decide (x ∈ ys)) = ys := by
    refine List.Perm.eq_of_pairwise (le := fun a b => a.cps.toList ≤ b.cps.toList) (fun a b _ _ h1 h2 => ?_) ((pw_sorted xs hx).filter _) (pw_sorted ys hy) ((List.perm_ext_iff_of_nodup (nx.filter _) ny).mpr fun a => ?_)
    · have := List.le_antisymm h1 h2
      cases a; cases b
      congr 1
      exact Array.toList_inj.mp this
    · rw [List.mem_filter, decide_eq_true_iff]
      exact ⟨fun z => z.2, fun z => ⟨h a z, z⟩⟩
  rw [← e]
  exact List.filter_sublist
theorem erase_pm {α : Type} {ms : List α} {i : Nat} (h : i < ms.length) : (ms[i] :: ms.eraseIdx i).Perm ms := by
  rw [List.eraseIdx_eq_take_drop_succ]
  conv => rhs; rw [← List.take_append_drop i ms, List.drop_eq_getElem_cons h]
  exact List.perm_middle.symm
theorem erase_mapG {α β : Type} (f : α → β) : ∀ (l : List α) (i : Nat), (l.map f).eraseIdx i = (l.eraseIdx i).map f
  | [], _ => by simp
  | _ :: _, 0 => rfl
  | x :: l, i + 1 => by
    rw [List.map_cons, List.eraseIdx_cons_succ, List.eraseIdx_cons_succ, List.map_cons, erase_mapG f l i]
end OC

set_option Elab.async false
set_option linter.all false
/-! three hands: their partings in order, the least numbers of calls -/
namespace OC
open PySem PySem.Spec PyProof.Rows L2
open PySem.W
theorem toks_strsA : ∀ {q r : List Str} {l m : List (Int ⊕ List Nat)}, keyToksAll (q.map PyData.str) ++ l = keyToksAll (r.map PyData.str) ++ m → q = r ∧ l = m
  | [], [], l, m, h => by
    simp only [List.map_nil, keyToksAll, List.cons_append, List.nil_append] at h
    injection h with _ h
    exact ⟨rfl, h⟩
  | [], y :: r, l, m, h => by
    simp only [List.map_cons, List.map_nil, keyToksAll, keyToks, List.cons_append, List.nil_append] at h
    injection h with h1 _
    injection h1 with h1
    cases h1
  | x :: q, [], l, m, h => by
    simp only [List.map_cons, List.map_nil, keyToksAll, keyToks, List.cons_append, List.nil_append] at h
    injection h with h1 _
    injection h1 with h1
    cases h1
  | x :: q, y :: r, l, m, h => by
    simp only [List.map_cons, keyToksAll, keyToks, List.cons_append, List.nil_append] at h
    injection h with _ h
    injection h with h1 h2
    injection h1 with h1
    have e : x = y := str_of_cps h1
    obtain ⟨e1, e2⟩ := toks_strsA h2
    exact ⟨by rw [e, e1], e2⟩
theorem toks_ptsA : ∀ {P Q : List (List Str)}, keyToksAll (P.map txD) = keyToksAll (Q.map txD) → P = Q
  | [], [], _ => rfl
  | [], y :: r, h => by
    simp only [List.map_cons, List.map_nil, keyToksAll] at h
    injection h with h1 _
    injection h1 with h1
    cases h1
  | x :: q, [], h => by
    simp only [List.map_cons, List.map_nil, keyToksAll] at h
    injection h with h1 _
    injection h1 with h1
    cases h1
  | x :: q, y :: r, h => by
    simp only [List.map_cons, keyToksAll, txD, keyToks] at h
    injection h with _ h
    obtain ⟨e1, e2⟩ := toks_strsA h
    have e2 : keyToksAll (q.map txD) = keyToksAll (r.map txD) := e2
    rw [e1, toks_ptsA e2]
theorem pt_anti {P Q : List (List Str)} (h1 : dataLt (ptD P) (ptD Q) = false) (h2 : dataLt (ptD Q) (ptD P) = false) : P = Q := by
  have e := lex_total _ _ h1 h2
  unfold ptD at e
  simp only [keyToks] at e
  exact toks_ptsA e
theorem lexS (x : Int ⊕ List Nat) (r t : List (Int ⊕ List Nat)) : PyProof.Rows.lexLt itemOrd (x :: r) (x :: t) = PyProof.Rows.lexLt itemOrd r t := lex_self (O := itemOrd) x r t
abbrev part3 (a b c : Str) : List (List (List Str)) := [[[a], [b], [c]], [[a], [b, c]], [[a, b], [c]], [[a, c], [b]]]
theorem lt_12 {a b c : Str} : dataLt (ptD [[a], [b], [c]]) (ptD [[a], [b, c]]) = true := by
  simp only [dataLt, ptD, txD, keyToks, keyToksAll, List.map_cons, List.map_nil, List.cons_append, List.nil_append]
  repeat rw [lexS]
  rfl
theorem lt_one {a b : Str} {P Q : List (List Str)} {q : List Str} : dataLt (ptD ([a] :: P)) (ptD ((a :: b :: q) :: Q)) = true := by
  simp only [dataLt, ptD, txD, keyToks, keyToksAll, List.map_cons, List.map_nil, List.cons_append, List.nil_append]
  repeat rw [lexS]
  rfl
theorem lt_34 {a b c : Str} (h : b.cps.toList < c.cps.toList) {P Q : List (List Str)} {q r : List Str} : dataLt (ptD ((a :: b :: q) :: P)) (ptD ((a :: c :: r) :: Q)) = true := by
  simp only [dataLt, ptD, txD, keyToks, keyToksAll, List.map_cons, List.map_nil, List.cons_append, List.nil_append]
  iterate 4 rw [lexS]
  rw [lex_diff (O := itemOrd) (fun z => by injection z with z; rw [z] at h; exact List.lt_irrefl _ h)]
  exact decide_eq_true h
theorem lt_not {x y : PyData} (h : dataLt x y = true) : dataLt y x = false := by
  cases e : dataLt y x with
  | false => rfl
  | true => exact absurd ((lex_trans _ _ _ h e).symm.trans (lex_irrefl _)) (by decide)
theorem part_three {a b c : Str} (bc : b.cps.toList < c.cps.toList) : partingsR [a, b, c] = part3 a b c := by
  refine rise_unique (le := fun P Q => !dataLt (ptD Q) (ptD P)) (fun P Q h1 h2 => pt_anti (by simpa using h2) (by simpa using h1)) ?_ ?_ ?_
  · refine (List.mergeSort_perm _ _).trans ?_
    show ([[[a, b], [c]], [[a, c], [b]], [[a], [b, c]], [[a], [b], [c]]] : List (List (List Str))).Perm _
    refine .trans (List.perm_append_comm (l₁ := [[[a, b], [c]], [[a, c], [b]]]) (l₂ := [[[a], [b, c]], [[a], [b], [c]]])) ?_
    exact .swap _ _ _
  · exact (partings_rise _).imp fun h => by rw [h]; rfl
  · simp only [part3, List.pairwise_cons, List.mem_cons, List.not_mem_nil, or_false, forall_eq_or_imp, forall_eq, Bool.not_eq_true', List.Pairwise.nil, and_true, false_imp_iff, implies_true]
    exact ⟨⟨lt_not lt_12, lt_not lt_one, lt_not lt_one⟩, ⟨lt_not lt_one, lt_not lt_one⟩, lt_not (lt_34 bc)⟩
theorem sorted3 {l : List Str} {a b c : Str} (h : sortedS l = true) (nd : l.Nodup) (sub : [a, b, c].Sublist l) : b.cps.toList < c.cps.toList := by
  have pw := (pw_sorted l h).sublist sub
  have n3 := nd.sublist sub
  have le : b.cps.toList ≤ c.cps.toList := by
    simp at pw
    exact pw.2
  refine Decidable.byContradiction fun z => ?_
  have e := List.le_antisymm le (List.not_lt.mp z)
  have : b = c := str_of_cps e
  simp [this] at n3
end OC

set_option Elab.async false
set_option linter.all false
/-! numbers of calls pushed along a map of names: the least number of calls of a group and of its image -/
namespace OC
open PySem PySem.Spec PyProof.Rows L2
/-- numbers pushed along a map -/
def pushX (g : Str → Str) (x : Str → Int) (A : List Str) (b : Str) : Int := (A.map fun a => if g a = b then x a else 0).sum
theorem sum_single {c : Int} {y : Str} : ∀ {B : List Str}, B.Nodup → y ∈ B → (B.map fun b => if y = b then c else 0).sum = c
  | [], _, h => (nomatch h)
  | b :: B, nd, h => by
    obtain ⟨n1, n2⟩ := List.nodup_cons.mp nd
    rw [List.map_cons, List.sum_cons]
    by_cases e : y = b
    · subst e
      have : (B.map fun b => if y = b then c else 0) = B.map fun _ => (0 : Int) := List.map_congr_left fun z hz => by
        rw [if_neg]
        intro e
        exact n1 (by rw [e]; exact hz)
      rw [if_pos rfl, this]
      have z0 : ∀ l : List Str, (l.map fun _ => (0 : Int)).sum = 0 := fun l => by
        induction l with
        | nil => rfl
        | cons _ l ih => rw [List.map_cons, List.sum_cons, ih]; rfl
      rw [z0]
      omega
    · rw [if_neg e, sum_single n2 ((List.mem_cons.mp h).resolve_left e)]
      omega
theorem sum_add {f h : Str → Int} : ∀ l : List Str, (l.map fun b => f b + h b).sum = (l.map f).sum + (l.map h).sum
  | [] => rfl
  | b :: l => by
    rw [List.map_cons, List.sum_cons, sum_add l, List.map_cons, List.sum_cons, List.map_cons, List.sum_cons]
    omega
theorem sum_none : ∀ l : List Str, (l.map fun _ => (0 : Int)).sum = 0
  | [] => rfl
  | _ :: l => by
    rw [List.map_cons, List.sum_cons, sum_none l]
    rfl
theorem push_sum {g : Str → Str} {x : Str → Int} {B : List Str} (nd : B.Nodup) (S : Str → Bool) : ∀ {A : List Str}, (∀ a ∈ A, g a ∈ B) → sumP (pushX g x A) B S = sumP x A fun a => S (g a)
  | [], _ => by
    unfold sumP pushX
    simp only [List.map_nil, List.sum_nil, List.filter_nil]
    exact sum_none _
  | a :: A, h => by
    have ih := push_sum (g := g) (x := x) nd S (A := A) fun z hz => h z (List.mem_cons_of_mem _ hz)
    have e : sumP (pushX g x (a :: A)) B S = ((B.filter S).map fun b => if g a = b then x a else 0).sum + sumP (pushX g x A) B S := by
      unfold sumP
      rw [← sum_add]
      rfl
    rw [e, ih]
    unfold sumP
    rw [List.filter_cons]
    cases hs : S (g a) with
    | true =>
      rw [if_pos rfl, List.map_cons, List.sum_cons, sum_single (nd.filter _) (List.mem_filter.mpr ⟨h a List.mem_cons_self, hs⟩)]
    | false =>
      rw [if_neg (by decide)]
      have : ((B.filter S).map fun b => if g a = b then x a else 0) = (B.filter S).map fun _ => (0 : Int) := List.map_congr_left fun z hz => by
        rw [if_neg]
        intro e
        rw [e, (List.mem_filter.mp hz).2] at hs
        cases hs
      rw [this, sum_none]
      omega
theorem sum_nn {x : Str → Int} : ∀ {l : List Str}, (∀ a ∈ l, 0 ≤ x a) → 0 ≤ (l.map x).sum
  | [], _ => Int.le_refl _
  | a :: l, h => by
    rw [List.map_cons, List.sum_cons]
    have := h a List.mem_cons_self
    have := sum_nn (l := l) fun z hz => h z (List.mem_cons_of_mem _ hz)
    omega
theorem sumP_mono {x : Str → Int} {S T : Str → Bool} : ∀ {A : List Str}, (∀ a ∈ A, 0 ≤ x a) → (∀ a ∈ A, S a = true → T a = true) → sumP x A S ≤ sumP x A T
  | [], _, _ => Int.le_refl _
  | a :: A, h, st => by
    have ih := sumP_mono (S := S) (T := T) (A := A) (fun z hz => h z (List.mem_cons_of_mem _ hz)) fun z hz => st z (List.mem_cons_of_mem _ hz)
    have ha := h a List.mem_cons_self
    have hs := st a List.mem_cons_self
    unfold sumP at ih ⊢
    rw [List.filter_cons, List.filter_cons]
    cases h1 : S a with
    | true =>
      rw [hs h1, if_pos rfl, if_pos rfl, List.map_cons, List.sum_cons, List.map_cons, List.sum_cons]
      omega
    | false =>
      cases h2 : T a with
      | true =>
        rw [if_neg (by decide), if_pos rfl, List.map_cons, List.sum_cons]
        omega
      | false =>
        rw [if_neg (by decide), if_neg (by decide)]
        exact ih
theorem sumP_all {x : Str → Int} {A : List Str} : sumP x A (fun _ => true) = (A.map x).sum := by
  unfold sumP
  rw [List.filter_eq_self.mpr fun _ _ => rfl]
theorem few_push {FA FB : List Str → Int} {A B : List Str} {g : Str → Str} (ndA : A.Nodup) (ndB : B.Nodup) (lA : 2 ≤ A.length) (lB : 2 ≤ B.length) (monoA : ∀ q, FA (restG A q) ≤ FA A) (subA : Subm A fun S => FA (A.filter S)) (r0 : 0 ≤ fewR FA A) (hg : ∀ a ∈ A, g a ∈ B)
    (h : ∀ q : List Str, (∃ b ∈ B, b ∉ q) → ∃ T : Str → Bool, (∃ a ∈ A, T a = true) ∧ (∀ a ∈ A, g a ∉ q → T a = true) ∧ FB B - FB (restG B q) ≤ FA A - FA (A.filter T)) : fewR FB B ≤ fewR FA A := by
  obtain ⟨x, mx, fx⟩ := omni ndA lA monoA subA
  obtain ⟨lx, sx, nx⟩ := tup_mem r0 mx
  obtain ⟨f, rfl⟩ := at_map ndA (ns := x) (by omega)
  have f0 : ∀ a ∈ A, 0 ≤ f a := fun a ha => (nx _ (List.mem_map_of_mem ha)).1
  have e1 : (B.map (pushX g f A)).sum = fewR FA A := by
    have := push_sum (x := f) ndB (fun _ => true) hg
    rw [sumP_all, sumP_all] at this
    omega
  rw [← e1]
  refine least_low ndB lB (List.length_map _).symm (firstW_of fun w hw => ?_)
  obtain ⟨q, mq, rfl⟩ := List.mem_map.mp hw
  show FB B - FB (restG B q) ≤ comeR B (B.map (pushX g f A)) q
  rw [come_map, push_sum ndB _ hg]
  obtain ⟨b, mb⟩ := lesser_out ndB mq
  obtain ⟨mbB, nb⟩ := rest_mem.mp mb
  obtain ⟨T, ⟨a0, m0, t0⟩, hT, hF⟩ := h q ⟨b, mbB, nb⟩
  have s1 : sumP f A (fun a => !T a) ≤ sumP f A fun a => decide (g a ∈ q) := sumP_mono f0 fun a ha ht => decide_eq_true (Decidable.byContradiction fun z => by
    rw [hT a ha z] at ht
    cases ht)
  have s2 : FA A - FA (A.filter T) ≤ sumP f A fun a => !T a := by
    by_cases hn : A.filter (fun a => !T a) = []
    · have e : A.filter T = A := List.filter_eq_self.mpr fun a ha => by
        have := List.filter_eq_nil_iff.mp hn a ha
        simpa using this
      rw [e]
      have := sumP_mono (S := fun _ => false) (T := fun a => !T a) f0 (fun a _ z => (nomatch z))
      have z : sumP f A (fun _ => false) = 0 := by
        unfold sumP
        rw [List.filter_eq_nil_iff.mpr fun _ _ => by decide]
        rfl
      omega
    · obtain ⟨a1, m1⟩ := List.exists_mem_of_ne_nil _ hn
      have ml : A.filter (fun a => !T a) ∈ lesserR A := lesser_in List.filter_sublist ⟨a1, m1⟩ ⟨a0, m0, fun z => by
        have := (List.mem_filter.mp z).2
        rw [t0] at this
        cases this⟩
      have w := firstW_none fx _ (List.mem_map_of_mem (f := fun q => (q, FA A - FA (restG A q))) ml)
      have w : FA A - FA (restG A (A.filter fun a => !T a)) ≤ comeR A (A.map f) (A.filter fun a => !T a) := w
      have e : restG A (A.filter fun a => !T a) = A.filter T := by
        unfold restG
        refine List.filter_congr fun a ha => ?_
        cases ht : T a with
        | true => simp [ht]
        | false => simp [ht, ha]
      rw [e, come_map] at w
      have e2 : (sumP f A fun z => decide (z ∈ A.filter fun a => !T a)) = sumP f A fun a => !T a := sumP_congr fun a ha => by
        cases ht : T a with
        | true => simp [ht]
        | false => simp [ht, ha]
      omega
  omega
/-! ### a hand twice -/
section
variable {p : Int} {n : Nat} {kn : List (List Int)} {hs hg : List (Str × List (List Int))} {own fr : Str}
/-- hands and, besides, one hand's room under a further name -/
def CopyOf (hs hg : List (Str × List (List Int))) (own fr : Str) : Prop := ∀ (x : Str) (room : List (List Int)), (x, room) ∈ hg ↔ (x, room) ∈ hs ∨ (x = fr ∧ (own, room) ∈ hs)
/-- the further name led back -/
def backN (own fr x : Str) : Str := if x = fr then own else x
theorem CopyOf.heard (C : CopyOf hs hg own fr) (row : List Int) : CopyOf (heardH p n row hs) (heardH p n row hg) own fr := fun x room => by
  unfold heardH
  constructor
  · intro h
    obtain ⟨⟨y, r⟩, m, e⟩ := List.mem_map.mp h
    cases e
    rcases (C y r).mp m with m | ⟨rfl, m⟩
    · exact .inl (List.mem_map.mpr ⟨(y, r), m, rfl⟩)
    · exact .inr ⟨rfl, List.mem_map.mpr ⟨(own, r), m, rfl⟩⟩
  · rintro (h | ⟨rfl, h⟩)
    · obtain ⟨⟨y, r⟩, m, e⟩ := List.mem_map.mp h
      cases e
      exact List.mem_map.mpr ⟨(y, r), (C y r).mpr (.inl m), rfl⟩
    · obtain ⟨⟨y, r⟩, m, e⟩ := List.mem_map.mp h
      cases e
      exact List.mem_map.mpr ⟨(x, r), (C x r).mpr (.inr ⟨rfl, m⟩), rfl⟩
theorem mem_selI {ns : List Str} {r : List Int} (hs : List (Str × List (List Int))) : r ∈ selR ns hs ↔ ∃ h ∈ hs, h.1 ∈ ns ∧ r ∈ h.2 := by
  constructor
  · intro h
    obtain ⟨x, mx, a, b⟩ := sel_mem h
    exact ⟨x, mx, a, b⟩
  · rintro ⟨x, mx, a, b⟩
    exact mem_sel mx a b
theorem copy_sel (C : CopyOf hs hg own fr) (nf : fr ∉ hs.map Prod.fst) {q : List Str} {r : List Int} : r ∈ selR q hg ↔ r ∈ selR (q.map (backN own fr)) hs := by
  rw [mem_selI, mem_selI]
  constructor
  · rintro ⟨⟨x, room⟩, m, mq, mr⟩
    rcases (C x room).mp m with m | ⟨rfl, m⟩
    · have ne : x ≠ fr := fun z => nf (by rw [← z]; exact List.mem_map_of_mem (f := Prod.fst) m)
      exact ⟨(x, room), m, List.mem_map.mpr ⟨x, mq, if_neg ne⟩, mr⟩
    · exact ⟨(own, room), m, List.mem_map.mpr ⟨x, mq, if_pos rfl⟩, mr⟩
  · rintro ⟨⟨x, room⟩, m, mq, mr⟩
    obtain ⟨y, my, e⟩ := List.mem_map.mp mq
    unfold backN at e
    by_cases h : y = fr
    · rw [if_pos h] at e
      have e : own = x := e
      subst e
      exact ⟨(y, room), (C y room).mpr (.inr ⟨h, m⟩), my, mr⟩
    · rw [if_neg h] at e
      have e : y = x := e
      subst e
      exact ⟨(y, room), (C y room).mpr (.inl m), my, mr⟩
theorem plain_set (F : Fld p) {rs ts : List (List Int)} (ok : RowsOk p n rs) (ok' : RowsOk p n ts) (h : ∀ r, r ∈ rs ↔ r ∈ ts) : plainR p n rs = plainR p n ts := plain_same F ok ok' (fun r hr => InR.mem ((h r).mp hr)) fun r hr => InR.mem ((h r).mpr hr)
theorem copy_room (S : Stand5 p n kn hs) (SG : Stand5 p n kn hg) (C : CopyOf hs hg own fr) (nf : fr ∉ hs.map Prod.fst) (q : List Str) : roomR p n kn hg q = roomR p n kn hs (q.map (backN own fr)) := by
  unfold roomR
  refine plain_set S.fld (room_rows SG q) (room_rows S _) fun r => ?_
  rw [List.mem_append, List.mem_append, copy_sel C nf]
theorem copy_size (S : Stand5 p n kn hs) (SG : Stand5 p n kn hg) (C : CopyOf hs hg own fr) (nf : fr ∉ hs.map Prod.fst) (q : List Str) : sizeR p n kn hg q = sizeR p n kn hs (q.map (backN own fr)) := by
  have := copy_room S SG C nf q
  unfold roomR at this
  unfold sizeR
  rw [this]
/-- some names that lead back to all of a group ask for as many calls -/
theorem copy_few (S : Stand5 p n kn hs) (SG : Stand5 p n kn hg) (C : CopyOf hs hg own fr) (nf : fr ∉ hs.map Prod.fst) {ms ns : List Str} (ndm : ms.Nodup) (ndn : ns.Nodup) (lm : 2 ≤ ms.length) (ln : 2 ≤ ns.length) (on : ∀ x ∈ ns, backN own fr x ∈ ms) (up : Str → Str) (upn : ∀ x ∈ ms, up x ∈ ns ∧ backN own fr (up x) = x) :
    fewR (sizeR p n kn hg) ns = fewR (sizeR p n kn hs) ms ∧ sizeR p n kn hg ns = sizeR p n kn hs ms := by
  have sz := copy_size S SG C nf
  have all : sizeR p n kn hg ns = sizeR p n kn hs ms := by
    rw [sz]
    refine size_congr fun x => ?_
    constructor
    · intro h
      obtain ⟨y, my, rfl⟩ := List.mem_map.mp h
      exact on y my
    · intro h
      exact List.mem_map.mpr ⟨up x, (upn x h).1, (upn x h).2⟩
  refine ⟨Int.le_antisymm ?_ ?_, all⟩
  · refine few_push (g := up) ndm ndn lm ln (fun q => size_mono S.toR fun y hy => (List.mem_filter.mp hy).1) (size_subm S ms) (few_zero S ndm lm) (fun a ha => (upn a ha).1) fun q hq => ?_
    obtain ⟨b, mb, nb⟩ := hq
    have mr : b ∈ restG ns q := rest_mem.mpr ⟨mb, nb⟩
    refine ⟨fun a => decide (a ∈ (restG ns q).map (backN own fr)), ⟨backN own fr b, on b mb, decide_eq_true (List.mem_map_of_mem mr)⟩, fun a ha h => decide_eq_true (List.mem_map.mpr ⟨up a, rest_mem.mpr ⟨(upn a ha).1, h⟩, (upn a ha).2⟩), ?_⟩
    rw [all, sz (restG ns q)]
    have : sizeR p n kn hs (ms.filter fun a => decide (a ∈ (restG ns q).map (backN own fr))) = sizeR p n kn hs ((restG ns q).map (backN own fr)) := size_congr fun x => by
      rw [List.mem_filter, decide_eq_true_iff]
      constructor
      · exact fun h => h.2
      · intro h
        obtain ⟨y, my, rfl⟩ := List.mem_map.mp h
        exact ⟨on y (rest_mem.mp my).1, h⟩
    omega
  · refine few_push (g := backN own fr) ndn ndm ln lm (fun q => size_mono SG.toR fun y hy => (List.mem_filter.mp hy).1) (size_subm SG ns) (few_zero SG ndn ln) on fun q hq => ?_
    obtain ⟨b, mb, nb⟩ := hq
    refine ⟨fun a => !decide (backN own fr a ∈ q), ⟨up b, (upn b mb).1, by show (!decide (backN own fr (up b) ∈ q)) = true; rw [(upn b mb).2]; simp [nb]⟩, fun a ha h => by simp [h], ?_⟩
    rw [all, sz]
    have : sizeR p n kn hs ((ns.filter fun a => !decide (backN own fr a ∈ q)).map (backN own fr)) ≤ sizeR p n kn hs (restG ms q) := size_mono S.toR fun x hx => by
      obtain ⟨y, my, rfl⟩ := List.mem_map.mp hx
      obtain ⟨m1, m2⟩ := List.mem_filter.mp my
      exact rest_mem.mpr ⟨on y m1, by simpa using m2⟩
    omega
/-- calls that hold, hold with the copy, whoever of the two makes them -/
theorem copy_holds {ms ns : List Str} (on : ∀ x ∈ ns, backN own fr x ∈ ms) (up : Str → Str) (upn : ∀ x ∈ ms, up x ∈ ns ∧ backN own fr (up x) = x) : ∀ {cs ds : List (Str × List Int)} {kn : List (List Int)} {hs hg : List (Str × List (List Int))}, Stand5 p n kn hs → Stand5 p n kn hg → CopyOf hs hg own fr → fr ∉ hs.map Prod.fst →
    (∀ c ∈ cs, RowsOk p n [c.2]) → (∀ d ∈ ds, d.1 ∈ ns) → ds.map (fun d => (backN own fr d.1, d.2)) = cs → holdsP p n ms kn hs cs = true → holdsP p n ns kn hg ds = true
  | [], [], kn, hs, hg, S, SG, C, nf, _, _, _, h => by
    unfold holdsP at h ⊢
    refine List.all_eq_true.mpr fun x hx => decide_eq_true ?_
    have sz := copy_size S SG C nf
    have h1 := of_decide_eq_true (List.all_eq_true.mp h (backN own fr x) (on x hx))
    rw [sz, sz]
    have e1 : sizeR p n kn hs (ns.map (backN own fr)) = sizeR p n kn hs ms := size_congr fun x => by
      constructor
      · intro h
        obtain ⟨y, my, rfl⟩ := List.mem_map.mp h
        exact on y my
      · intro h
        exact List.mem_map.mpr ⟨up x, (upn x h).1, (upn x h).2⟩
    rw [e1]
    exact h1
  | [], d :: ds, _, _, _, _, _, _, _, _, _, e, _ => by cases e
  | c :: cs, [], _, _, _, _, _, _, _, _, _, e, _ => by cases e
  | c :: cs, d :: ds, kn, hs, hg, S, SG, C, nf, ok, mem, e, h => by
    rw [List.map_cons] at e
    injection e with e1 e2
    subst e1
    unfold holdsP at h ⊢
    obtain ⟨m1, h⟩ := Bool.and_eq_true _ _ ▸ h
    obtain ⟨m2, h⟩ := Bool.and_eq_true _ _ ▸ h
    have okc := ok _ List.mem_cons_self
    have md := mem d List.mem_cons_self
    have ih := copy_holds on up upn (S.heard okc) (SG.heard okc) (C.heard d.2) (by rw [heard_names]; exact nf) (fun z hz => ok z (List.mem_cons_of_mem _ hz)) (fun z hz => mem z (List.mem_cons_of_mem _ hz)) e2 h
    have m2 : hasR p n (roomR p n kn hs [backN own fr d.1]) d.2 = true := m2
    rw [decide_eq_true md, Bool.true_and, copy_room S SG C nf [d.1], List.map_singleton, m2, Bool.true_and]
    exact ih
end
end OC

set_option Elab.async false
set_option linter.all false
/-! hands sorted: their names rise -/
namespace OC
open PySem PySem.Spec PyProof.Rows L2
open PySem.W
theorem sorted_of : ∀ {l : List Str}, l.Pairwise (fun a b => a.cps.toList ≤ b.cps.toList) → sortedS l = true
  | [], _ => rfl
  | x :: r, h => by
    have go : ∀ (r : List Str) (p : Str), (p :: r).Pairwise (fun a b => a.cps.toList ≤ b.cps.toList) → risingS p r = true := fun r => by
      induction r with
      | nil => exact fun _ _ => rfl
      | cons y r ih =>
        intro p h
        obtain ⟨h1, h2⟩ := List.pairwise_cons.mp h
        unfold risingS
        rw [ih y h2, Bool.and_true, ltCps_eq]
        have := h1 y List.mem_cons_self
        simpa using List.not_lt.mpr this
    exact go r x h
theorem alike_hand (a b : Str × List (List Int)) : alike (handD a) (handD b) = true := by
  have rows : ∀ rs ts : List (List Int), alikeAll (rs.map rowD) (ts.map rowD) = true := fun rs => by
    induction rs with
    | nil => intro ts; cases ts <;> rfl
    | cons r rs ih =>
      intro ts
      cases ts with
      | nil => rfl
      | cons t ts =>
        have hint : ∀ a b : List Int, alikeAll (a.map PyData.int) (b.map PyData.int) = true := fun a => by
          induction a with
          | nil => intro b; cases b <;> rfl
          | cons x a ia =>
            intro b
            cases b with
            | nil => rfl
            | cons y b =>
              simp only [List.map_cons, alikeAll, alike, ia b, Bool.and_true]
        simp only [List.map_cons, alikeAll, ih ts, Bool.and_true]
        exact hint r t
  simp only [handD, alike, alikeAll, rows, Bool.and_true, Bool.true_and]
theorem lt_hand {a b : Str × List (List Int)} (ne : a.1 ≠ b.1) (h : dataLt (handD b) (handD a) = false) : a.1.cps.toList ≤ b.1.cps.toList := by
  have hne : (Sum.inr b.1.cps.toList : Int ⊕ List Nat) ≠ Sum.inr a.1.cps.toList := fun z => by
    injection z with z
    exact ne (str_of_cps z).symm
  unfold dataLt handD at h
  simp only [keyToks, keyToksAll, List.cons_append, List.nil_append] at h
  rw [lexS, lex_diff (O := itemOrd) hne] at h
  have h : decide (b.1.cps.toList < a.1.cps.toList) = false := h
  exact List.not_lt.mp (of_decide_eq_false h)
theorem hands_sorted {hg : List (Str × List (List Int))} (nd : (hg.map Prod.fst).Nodup) : sortedS ((hg.mergeSort (dataLe false handD)).map Prod.fst) = true := by
  have pm := List.mergeSort_perm hg (dataLe false handD)
  have pw := sort_pairwise (sortLe_total (listOrd itemOrd) false fun b => keyToks (handD b)) hg
  have pw : (hg.mergeSort (dataLe false handD)).Pairwise fun a b => dataLe false handD a b = true := pw
  have nd' : ((hg.mergeSort (dataLe false handD)).map Prod.fst).Nodup := (pm.map Prod.fst).nodup_iff.mpr nd
  refine sorted_of ?_
  rw [List.pairwise_map]
  have nd2 : (hg.mergeSort (dataLe false handD)).Pairwise fun a b => a.1 ≠ b.1 := List.pairwise_map.mp nd'
  refine (pw.and nd2).imp fun {a b} h => lt_hand h.2 ?_
  have := h.1
  rw [dataLe_eq] at this
  simpa using this
theorem hands_sortable (hg : List (Str × List (List Int))) : SortableE (hg.map handD) := .inl (.inl fun d hd => by
  obtain ⟨h, _, rfl⟩ := List.mem_map.mp hd
  exact ⟨_, _, rfl⟩)
theorem hands_alike (hg : List (Str × List (List Int))) : AllAlike (hg.map handD) := fun x hx y hy => by
  obtain ⟨a, _, rfl⟩ := List.mem_map.mp hx
  obtain ⟨b, _, rfl⟩ := List.mem_map.mp hy
  exact alike_hand a b
theorem depth_hand (h : Str × List (List Int)) : (handD h).depth ≤ 8 := by
  have := depth_rows h.2
  simp only [handD, PyData.depth, PyData.depthAll]
  omega
theorem texts_sorted (ns : List Str) : sortedS (ns.mergeSort strLe) = true := by
  have pw := sort_pairwise (sortLe_total (listOrd itemOrd) false fun b => keyToks (PyData.str b)) ns
  have pw : (ns.mergeSort strLe).Pairwise fun a b => strLe a b = true := pw
  refine sorted_of (pw.imp fun {a b} h => ?_)
  unfold strLe at h
  rw [dataLe_eq] at h
  have h : dataLt (.str b) (.str a) = false := by simpa using h
  by_cases e : a = b
  · subst e
    exact List.le_refl _
  · have hne : (Sum.inr b.cps.toList : Int ⊕ List Nat) ≠ Sum.inr a.cps.toList := fun z => by
      injection z with z
      exact e (str_of_cps z).symm
    unfold dataLt at h
    simp only [keyToks] at h
    rw [lex_diff (O := itemOrd) hne] at h
    have h : decide (b.cps.toList < a.cps.toList) = false := h
    exact List.not_lt.mp (of_decide_eq_false h)
end OC

set_option Elab.async false
set_option linter.all false
set_option maxRecDepth 100000
set_option maxHeartbeats 4000000
/-! any thing == a text; any thing in a tuple of texts; t != () -/
namespace OC
open PySem PySem.Spec PyProof.Rows L2
open PySem.SeqAt
section
variable {A : Around} {s : Shared}
theorem str_eq_declines_dict (b : Str) (u : Tok) (l : Addr) (dd : Option Addr) (es : Array DictEntry) (ep : Nat) (sl : Array (Option Value)) :
    Meets (Builtin.«str.__eq__» ⟨[.str b u, .ref l], []⟩) (fun _ R s => s.heap.get? l = some { cls := .type "dict", dict := dd, data := .dict es ep, slots := sl } ∧ R (.ok (.ret .notImplemented)) s) :=
  .of_wp fun prog w A R s h => by
    obtain ⟨hl, h⟩ := h
    obtain ⟨hp, g, d, tk, os⟩ := s
    wp_walk using wpAny_load hl
    exact ⟨_, rfl, h⟩
theorem dict_eq_str {prog : Program} {w : World} {E : Value → Shared → Prop} {Q : Value → Shared → Prop} {l : Addr} {b : Str} {u : Tok} (hl : s.TypeIs (.ref l) "dict") (h : Q .notImplemented s) :
    wpAny (model prog w) A (call (.builtin "dict.__eq__") [.ref l, .str b u]) Q E s := by
  refine wpAny_call_entry PySem.F.slot_dict_eq hl PySem.F.entry_dict_eq ?_ (PySem.F.args_dict_eq_2 _ _)
  show wpAny _ _ (Builtin.Dict.dictSlotArgs "__eq__" ⟨[.ref l, .str b u], []⟩ >>= _) _ _ s
  refine wpAny_bind ?_
  unfold Builtin.Dict.dictSlotArgs
  refine wpAny_bind (wpAny_notOrdered_dict hl ?_)
  show wpAny _ _ (pure (Value.ref l, Value.str b u)) _ _ s
  refine wpAny_pure ?_
  refine wpAny_bind (wpAny_isInstance (T := "str") (typeIs_str s b u) PySem.F.sub_str_dict ?_)
  simp only [Bool.not_false, if_true]
  refine wpAny_bind (wpAny_rule ?_)
  refine wpAny_bind (wpAny_pure (wpAny_pure ⟨_, rfl, h⟩))
theorem rcAt_str_dict {prog : Program} {w : World} {l : Addr} {kvs : List (L2.Key × Value)} (b : Str) (u : Tok) (hl : s.heap.DictOf (mixKind prog w) l kvs) (hu : A.units < cLine) : RcAt A s (.str b u) (.ref l) false := fun prog w E Q h => by
  obtain ⟨⟨cls, dd, data, sl⟩, es, ep, ho, hx, hd, _⟩ := id hl
  have hT := hl.typeIs
  have hc : cls = .type "dict" := hx.1
  simp only at hd
  subst hd hc
  exact rc_eq_decline_or (k := false) (typeIs_str s b u) hT (by decide) F.sub_dict_str F.slot_str_eq F.slot_dict_eq_refl
    (fun _ hq => call_meets F.slot_str_eq (typeIs_str s b u) F.entry_str_eq (F.args_str_eq_2 _ _) (str_eq_declines_dict b u l dd es ep sl) ⟨ho, hq⟩)
    (fun _ hq => dict_eq_str hT hq)
    (fun _ hq => wpAny_of_eq (rfl : isSame (.str b u) (.ref l) = pure false) hq) (.inr hu) h
theorem rcAt_dict_str {prog : Program} {w : World} {l : Addr} {kvs : List (L2.Key × Value)} (b : Str) (u : Tok) (hl : s.heap.DictOf (mixKind prog w) l kvs) (hu : A.units < cLine) : RcAt A s (.ref l) (.str b u) false := fun prog w E Q h => by
  obtain ⟨⟨cls, dd, data, sl⟩, es, ep, ho, hx, hd, _⟩ := id hl
  have hT := hl.typeIs
  have hc : cls = .type "dict" := hx.1
  simp only at hd
  subst hd hc
  exact rc_eq_decline_or (k := false) hT (typeIs_str s b u) (by decide) F.sub_str_dict F.slot_dict_eq F.slot_str_eq_refl
    (fun _ hq => dict_eq_str hT hq)
    (fun _ hq => call_meets F.slot_str_eq_refl (typeIs_str s b u) F.entry_str_eq (F.args_str_eq_2 _ _) (str_eq_declines_dict b u l dd es ep sl) ⟨ho, hq⟩)
    (fun _ hq => wpAny_of_eq (rfl : isSame (.ref l) (.str b u) = pure false) hq) (.inr hu) h
theorem eqAt_str_dict {prog : Program} {w : World} {l : Addr} {kvs : List (L2.Key × Value)} (b : Str) (u : Tok) (hl : s.heap.DictOf (mixKind prog w) l kvs) (hu : A.units < cLine) : EqAt A s (.str b u) (.ref l) false := fun prog w E Q q => by
  unfold eqBool
  refine wpAny_holding ?_
  refine wpAny_ite_split (fun hab => absurd (eq_of_beq hab) nofun) (fun _ => ?_)
  exact wpAny_bind (rcAt_str_dict b u hl hu prog w E _ (wpAny_truthy_bool q))
end
/-- of a known kind -/
inductive AnyT (K : PySem.W.Frag) (H : Hp) : V → Prop
  | non : AnyT K H .non
  | bl (b : Bool) : AnyT K H (.bl b)
  | int (i : Int) : AnyT K H (.int i)
  | str (x : Str) : AnyT K H (.str x)
  | lst {a : Addr} {xs : List V} : SqL K H a xs → AnyT K H (.ref a)
  | tup {a : Addr} {xs : List V} : SqT K H a xs → AnyT K H (.ref a)
  | dct {a : Addr} {kvs : List (L2.Key × V)} : H a = some (.dK kvs) → AnyT K H (.ref a)
theorem Rep.any {K : PySem.W.Frag} {H : Hp} {bad : Addr → Prop} {v : V} {d : PyData} (r : Rep K H bad v d) : AnyT K H v := by
  cases r with
  | non => exact .non
  | bl b => exact .bl b
  | int i => exact .int i
  | str x => exact .str x
  | lst h _ _ => exact .lst (.inl (.inl h))
  | tup h _ => exact .tup h
  | dct h _ => exact .dct h
def isSt (z : Str) : V → Bool
  | .str y => z == y
  | _ => false
def rEqSt (K : PySem.W.Frag) : R2 := fun x y H Q => ∃ z, y = .str z ∧ AnyT K H x ∧ Q (.bl (isSt z x)) H
theorem op_eqSt {X : Cx} (hu : X.A.units < cLine) : OpR X (compareOp .Eq) (rEqSt X.K) := by
  intro pins s σ H x y v u Q I rx ry h
  obtain ⟨z, rfl, a, q⟩ := h
  obtain ⟨t, rfl⟩ := ry
  cases a with
  | non => cases rx; exact SeqAt.RcAt.none_str z t X.prog X.w X.xe _ ⟨.bl false, H, I, rfl, q⟩
  | bl b => cases rx; exact SeqAt.RcAt.bool_str b z t X.prog X.w X.xe _ ⟨.bl false, H, I, rfl, q⟩
  | int i => obtain ⟨t', rfl⟩ := rx; exact SeqAt.RcAt.int_str i t' z t X.prog X.w X.xe _ ⟨.bl false, H, I, rfl, q⟩
  | str x => obtain ⟨t', rfl⟩ := rx; exact SeqAt.RcAt.str_str x t' z t X.prog X.w X.xe _ ⟨.bl _, H, I, rfl, by rw [show (x == z) = (z == x) from Bool.beq_comm]; exact q⟩
  | lst h => cases rx; obtain ⟨its, r1, p1, _⟩ := I.list h; exact SeqAt.RcAt.list_str z t p1.isList hu X.prog X.w X.xe _ ⟨.bl false, H, I, rfl, q⟩
  | tup h => cases rx; obtain ⟨its, r1, p1, _⟩ := I.tuple h; exact SeqAt.RcAt.tuple_str z t p1 hu X.prog X.w X.xe _ ⟨.bl false, H, I, rfl, q⟩
  | dct h =>
    cases rx
    obtain ⟨_, ya, va, ra, da⟩ := (show ObjOk X.prog X.w H s.heap _ (.dK _) from I.hok _ _ h)
    exact rcAt_dict_str z t da hu X.prog X.w X.xe _ ⟨.bl false, H, I, rfl, q⟩
theorem eqAt_St {X : Cx} {pins : List (Addr × Obj)} {σ : L2.St} {H : Hp} {s : Shared} {A : Around} (I : Inv X pins σ H s) (hu : A.units < cLine) {x : V} {v : Value} (a : AnyT X.K H x) (rx : RelV x v) (z : Str) (t : Tok) : SeqAt.EqAt A s (.str z t) v (isSt z x) := by
  cases a with
  | non => cases rx; exact SeqAt.EqAt.str_none z t
  | bl b => cases rx; exact SeqAt.EqAt.str_bool z t b
  | int i => obtain ⟨t', rfl⟩ := rx; exact SeqAt.EqAt.str_int z t i t'
  | str x => obtain ⟨t', rfl⟩ := rx; exact SeqAt.EqAt.str_str z t x t'
  | lst h => cases rx; obtain ⟨its, r1, p1, _⟩ := I.list h; exact SeqAt.EqAt.str_list z t p1.isList hu
  | tup h => cases rx; obtain ⟨its, r1, p1, _⟩ := I.tuple h; exact SeqAt.EqAt.str_tuple z t p1 hu
  | dct h =>
    cases rx
    obtain ⟨_, ya, va, ra, da⟩ := (show ObjOk X.prog X.w H s.heap _ (.dK _) from I.hok _ _ h)
    exact eqAt_str_dict z t da hu
def stU (x : V) : Value → Bool
  | .str z _ => isSt z x
  | _ => false
theorem mem_St {X : Cx} {pins : List (Addr × Obj)} {σ : L2.St} {H : Hp} {s : Shared} {A : Around} (I : Inv X pins σ H s) (hu : A.units < cLine) {x : V} {v : Value} (a : AnyT X.K H x) (rx : RelV x v) : ∀ {zs : List Str} {us : List Value}, Vals (zs.map V.str) us → (∀ u ∈ us, SeqAt.EqAt A s u v (stU x u)) ∧ us.any (stU x) = zs.any fun z => isSt z x
  | [], _, r => by cases r; exact ⟨fun u hu => (by cases hu), rfl⟩
  | z :: zs, _, r => by
    cases r with
    | cons r1 r2 =>
      obtain ⟨t, rfl⟩ := r1
      obtain ⟨h1, h2⟩ := mem_St I hu a rx r2
      refine ⟨fun u hm => ?_, by rw [List.any_cons, List.any_cons, h2]; rfl⟩
      rcases List.mem_cons.mp hm with rfl | hm
      · exact eqAt_St I hu a rx z t
      · exact h1 u hm
/-- any thing in a tuple of texts -/
def rInSt (K : PySem.W.Frag) : R2 := fun x y H Q => ∃ (p : Addr) (zs : List Str), y = .ref p ∧ SqT K H p (zs.map V.str) ∧ AnyT K H x ∧ Q (.bl (zs.any fun z => isSt z x)) H
theorem op_inSt {X : Cx} (hu : X.A.units + 1 < cLine) : OpR X (compareOp .In) (rInSt X.K) := by
  intro pins s σ H x y v u Q I rx ry h
  obtain ⟨p, zs, rfl, hq, a, q⟩ := h
  cases ry
  obtain ⟨its, r, pl, hz⟩ := I.tuple hq
  obtain ⟨h1, h2⟩ := mem_St (A := X.A.in1) I hu a rx r
  refine SeqAt.in_tupleAt (stU x) pl (fun w hw => h1 w (by simpa using hw)) ⟨.bl _, H, I, rfl, ?_⟩
  rw [show its.toArray.any (stU x) = its.any (stU x) by simp, h2]
  exact q
/-- t != (), t == () of any tuple -/
def rNeT0 (K : PySem.W.Frag) : R2 := fun x y H Q => ∃ l b xs, x = .ref l ∧ y = .ref b ∧ SqT K H l xs ∧ SqT K H b [] ∧ Q (.bl (!xs.isEmpty)) H
def rEqT0 (K : PySem.W.Frag) : R2 := fun x y H Q => ∃ l b xs, x = .ref l ∧ y = .ref b ∧ SqT K H l xs ∧ SqT K H b [] ∧ Q (.bl xs.isEmpty) H
theorem size0 {xs : List V} {its its2 : List Value} (r1 : Vals xs its) (r2 : Vals [] its2) : ((List.range (min its.toArray.size its2.toArray.size)).all (fun _ => false) && its.toArray.size == its2.toArray.size) = xs.isEmpty := by
  cases r2
  cases r1 with
  | nil => rfl
  | cons a b => rfl
theorem op_neT0 {X : Cx} (hu : X.A.units + 1 < cLine) : OpR X (compareOp .NotEq) (rNeT0 X.K) := by
  intro pins s σ H x y v u Q I rx ry h
  obtain ⟨l, b, xs, ex, ey, hl, hb, q⟩ := h
  subst ex ey
  cases rx
  cases ry
  obtain ⟨its, r1, p1, _⟩ := I.tuple hl
  obtain ⟨its2, r2, p2, _⟩ := I.tuple hb
  have l2 := r2.length
  refine SeqAt.RcNeAt.tuples (e := fun _ => false) p1 p2 (by omega) (fun j h1 h2 => absurd h2 (by rw [List.size_toArray, ← l2]; exact Nat.not_lt_zero j)) X.prog X.w X.xe _ ⟨.bl _, H, I, rfl, ?_⟩
  rw [size0 r1 r2]
  exact q
theorem op_eqT0 {X : Cx} (hu : X.A.units + 1 < cLine) : OpR X (compareOp .Eq) (rEqT0 X.K) := by
  intro pins s σ H x y v u Q I rx ry h
  obtain ⟨l, b, xs, ex, ey, hl, hb, q⟩ := h
  subst ex ey
  cases rx
  cases ry
  obtain ⟨its, r1, p1, _⟩ := I.tuple hl
  obtain ⟨its2, r2, p2, _⟩ := I.tuple hb
  have l2 := r2.length
  refine SeqAt.RcAt.tuples (e := fun _ => false) p1 p2 (by omega) (fun j h1 h2 => absurd h2 (by rw [List.size_toArray, ← l2]; exact Nat.not_lt_zero j)) X.prog X.w X.xe _ ⟨.bl _, H, I, rfl, ?_⟩
  rw [size0 r1 r2]
  exact q
end OC
namespace OC
open PySem PySem.Spec PyProof.Rows L2
/-! truths among numbers -/
theorem op_add_bi {X : Cx} : OpR X (binaryOp .Add) (fun x y H Q => ∃ k j, x = .bl k ∧ y = .int j ∧ Q (.int ((if k = true then (1 : Int) else 0) + j)) H) := by
  intro pins s σ H x y v u Q I rx ry h
  obtain ⟨k, j, rfl, rfl, q⟩ := h
  cases rx
  obtain ⟨t, rfl⟩ := ry
  exact PySem.IntBool.add_bool_int ⟨.int _, H, I.tok _, ⟨_, rfl⟩, q⟩
theorem op_sub_bi {X : Cx} : OpR X (binaryOp .Sub) (fun x y H Q => ∃ k j, x = .bl k ∧ y = .int j ∧ Q (.int ((if k = true then (1 : Int) else 0) - j)) H) := by
  intro pins s σ H x y v u Q I rx ry h
  obtain ⟨k, j, rfl, rfl, q⟩ := h
  cases rx
  obtain ⟨t, rfl⟩ := ry
  exact PySem.IntBool.sub_bool_int ⟨.int _, H, I.tok _, ⟨_, rfl⟩, q⟩
theorem op_eq_bi {X : Cx} : OpR X (compareOp .Eq) (fun x y H Q => ∃ k j, x = .bl k ∧ y = .int j ∧ Q (.bl ((if k = true then (1 : Int) else 0) == j)) H) := by
  intro pins s σ H x y v u Q I rx ry h
  obtain ⟨k, j, rfl, rfl, q⟩ := h
  cases rx
  obtain ⟨t, rfl⟩ := ry
  exact SeqAt.RcAt.bool_int k j t X.prog X.w X.xe _ ⟨.bl _, H, I, rfl, q⟩
end OC

set_option Elab.async false
set_option linter.all false
set_option maxRecDepth 100000
set_option maxHeartbeats 4000000
/-! things that nest, with weights -/
namespace OC
open PySem PySem.Spec PyProof.Rows L2
mutual
/-- numbers to g, signs that repr shows, no dict but the empty one -/
def nz (g : Nat) : PyData → Bool
  | .none => true
  | .bool _ => true
  | .int i => decide (i.natAbs ≤ g)
  | .str x => x.cps.toList.all fun c => decide (c < 1000000)
  | .list ds => nzAll g ds
  | .tuple ds => nzAll g ds
  | .dict ds => ds.isEmpty
def nzAll (g : Nat) : List PyData → Bool
  | [] => true
  | d :: ds => nz g d && nzAll g ds
end
mutual
/-- no less than the signs of repr -/
def wt : PyData → Nat
  | .none => 4
  | .bool _ => 5
  | .int _ => 50
  | .str x => 10 * x.length + 2
  | .list ds => wtAll ds + 3
  | .tuple ds => wtAll ds + 3
  | .dict _ => 2
def wtAll : List PyData → Nat
  | [] => 0
  | d :: ds => wt d + 2 + wtAll ds
end
theorem nzAll_iff {g : Nat} : ∀ {ds : List PyData}, nzAll g ds = true ↔ ∀ d ∈ ds, nz g d = true
  | [] => by simp [nzAll]
  | d :: ds => by simp only [nzAll, Bool.and_eq_true, nzAll_iff (ds := ds), List.forall_mem_cons]
theorem wtAll_append : ∀ xs ys : List PyData, wtAll (xs ++ ys) = wtAll xs + wtAll ys
  | [], ys => by simp [wtAll]
  | d :: xs, ys => by rw [List.cons_append, wtAll, wtAll, wtAll_append xs ys]; omega
theorem wtAll_reverse : ∀ xs : List PyData, wtAll xs.reverse = wtAll xs
  | [] => rfl
  | d :: xs => by rw [List.reverse_cons, wtAll_append, wtAll_reverse xs, wtAll, wtAll, wtAll]; omega
theorem wtAll_take (xs : List PyData) (i : Nat) : wtAll (xs.take i) + wtAll (xs.drop i) = wtAll xs := by
  rw [← wtAll_append, List.take_append_drop]
theorem wtAll_len : ∀ xs : List PyData, 2 * xs.length ≤ wtAll xs
  | [] => Nat.le_refl _
  | d :: xs => by
    have := wtAll_len xs
    rw [List.length_cons, wtAll]
    omega
theorem wtAll_mem : ∀ {xs : List PyData} {d : PyData}, d ∈ xs → wt d + 2 ≤ wtAll xs
  | x :: xs, d, h => by
    rw [wtAll]
    rcases List.mem_cons.mp h with rfl | h
    · omega
    · have := wtAll_mem h
      omega
theorem wtAll_le {B n : Nat} : ∀ {xs : List PyData}, (∀ d ∈ xs, wt d ≤ B) → xs.length ≤ n → wtAll xs ≤ n * (B + 2)
  | [], _, _ => by simp [wtAll]
  | x :: xs, h, hl => by
    cases n with
    | zero => simp at hl
    | succ n =>
      have h1 := wtAll_le (B := B) (n := n) (xs := xs) (fun d m => h d (List.mem_cons_of_mem _ m)) (by simpa using hl)
      have h2 := h x List.mem_cons_self
      rw [wtAll, Nat.add_mul]
      omega
theorem str_shown (x : Str) (h : (x.cps.toList.all fun c => decide (c < 1000000)) = true) : (PyData.str x).shown.length ≤ 10 * x.length + 2 := by
  simp only [PyData.shown]
  exact PySem.StrLaws.reprText_len x fun c hc => Nat.lt_of_lt_of_le (of_decide_eq_true (List.all_eq_true.mp h c hc)) (by decide)
mutual
theorem nz_fit {g : Nat} (hg : g < 10 ^ 40) : ∀ (d : PyData), nz g d = true → d.shown.length ≤ wt d ∧ d.showable = true
  | .none, _ => ⟨by decide +kernel, by decide +kernel⟩
  | .bool b, _ => by cases b <;> exact ⟨by decide +kernel, by decide +kernel⟩
  | .int i, h => by
    have := fit_int (i := i) (Nat.lt_of_le_of_lt (of_decide_eq_true (by simpa only [nz] using h)) hg)
    exact ⟨this.len, this.sh⟩
  | .str x, h => ⟨by rw [wt]; exact str_shown x (by simpa only [nz] using h), by simp [PyData.showable]⟩
  | .list ds, h => by
    obtain ⟨h1, h2⟩ := nz_fitAll hg ds (by simpa only [nz] using h)
    refine ⟨?_, by simp only [PyData.showable]; exact h2⟩
    simp only [PyData.shown]
    refine Nat.le_trans (listText_len_le _) ?_
    rw [shownAll_map, List.length_map, wt]
    have := h1
    omega
  | .tuple ds, h => by
    obtain ⟨h1, h2⟩ := nz_fitAll hg ds (by simpa only [nz] using h)
    refine ⟨?_, by simp only [PyData.showable]; exact h2⟩
    simp only [PyData.shown]
    refine Nat.le_trans (tupleText_len_le _) ?_
    rw [shownAll_map, List.length_map, wt]
    have := h1
    omega
  | .dict ds, h => by
    cases ds with
    | nil => exact ⟨by decide +kernel, by decide +kernel⟩
    | cons a b => simp [nz] at h
theorem nz_fitAll {g : Nat} (hg : g < 10 ^ 40) : ∀ (ds : List PyData), nzAll g ds = true → ((ds.map PyData.shown).map (·.length)).sum + 2 * ds.length ≤ wtAll ds ∧ PyData.showableAll ds = true
  | [], _ => ⟨by simp [wtAll], by simp [PyData.showableAll]⟩
  | d :: ds, h => by
    have h' : nz g d = true ∧ nzAll g ds = true := by simpa [nzAll] using h
    obtain ⟨a1, a2⟩ := nz_fit hg d h'.1
    obtain ⟨b1, b2⟩ := nz_fitAll hg ds h'.2
    refine ⟨?_, by simp [PyData.showableAll, a2, b2]⟩
    rw [List.map_cons, List.map_cons, List.sum_cons, List.length_cons, wtAll]
    omega
end
/-- a thing's weight, depth and numbers -/
structure Thg (g B k : Nat) (d : PyData) : Prop where
  n : nz g d = true
  w : wt d ≤ B
  k : d.depth ≤ k
theorem Thg.fit {g B k : Nat} {d : PyData} (h : Thg g B k d) (hg : g < 10 ^ 40) : FitZ B k d := by
  obtain ⟨h1, h2⟩ := nz_fit hg d h.n
  exact ⟨Nat.le_trans h1 h.w, h2, h.k⟩
mutual
theorem nz_mono {g g' : Nat} (hg : g ≤ g') : ∀ (d : PyData), nz g d = true → nz g' d = true
  | .none, _ => by simp [nz]
  | .bool _, _ => by simp [nz]
  | .int i, h => by
    have : i.natAbs ≤ g := by simpa [nz] using h
    simp only [nz]
    exact decide_eq_true (by omega)
  | .str x, h => by simpa [nz] using h
  | .list ds, h => by simp only [nz]; exact nzAll_mono hg ds (by simpa [nz] using h)
  | .tuple ds, h => by simp only [nz]; exact nzAll_mono hg ds (by simpa [nz] using h)
  | .dict ds, h => by simpa [nz] using h
theorem nzAll_mono {g g' : Nat} (hg : g ≤ g') : ∀ (ds : List PyData), nzAll g ds = true → nzAll g' ds = true
  | [], _ => by simp [nzAll]
  | d :: ds, h => by
    have h' : nz g d = true ∧ nzAll g ds = true := by simpa [nzAll] using h
    simp only [nzAll, Bool.and_eq_true]
    exact ⟨nz_mono hg d h'.1, nzAll_mono hg ds h'.2⟩
end
theorem Thg.mono {g g' B B' k k' : Nat} {d : PyData} (h : Thg g B k d) (hg : g ≤ g') (hB : B ≤ B') (hk : k ≤ k') : Thg g' B' k' d := ⟨nz_mono hg d h.n, Nat.le_trans h.w hB, Nat.le_trans h.k hk⟩
theorem depth_all {k : Nat} : ∀ {ds : List PyData}, PyData.depthAll ds ≤ k ↔ ∀ d ∈ ds, d.depth ≤ k
  | [] => by simp [PyData.depthAll]
  | d :: ds => by
    simp only [PyData.depthAll, List.forall_mem_cons, ← depth_all (ds := ds)]
    omega
theorem thg_tuple {g B k : Nat} {ds : List PyData} (h : ∀ d ∈ ds, nz g d = true) (w : wtAll ds + 3 ≤ B) (hk : ∀ d ∈ ds, d.depth ≤ k) : Thg g B (k + 1) (.tuple ds) :=
  ⟨by simp only [nz]; exact nzAll_iff.mpr h, by rw [wt]; exact w, by simp only [PyData.depth]; have := depth_all.mpr hk; omega⟩
theorem thg_list {g B k : Nat} {ds : List PyData} (h : ∀ d ∈ ds, nz g d = true) (w : wtAll ds + 3 ≤ B) (hk : ∀ d ∈ ds, d.depth ≤ k) : Thg g B (k + 1) (.list ds) :=
  ⟨by simp only [nz]; exact nzAll_iff.mpr h, by rw [wt]; exact w, by simp only [PyData.depth]; have := depth_all.mpr hk; omega⟩
theorem Thg.tup {g B k : Nat} {ds : List PyData} (h : Thg g B k (.tuple ds)) : (∀ d ∈ ds, nz g d = true) ∧ wtAll ds + 3 ≤ B ∧ ∃ k', k = k' + 1 ∧ ∀ d ∈ ds, d.depth ≤ k' := by
  refine ⟨nzAll_iff.mp (by simpa only [nz] using h.n), by have := h.w; rw [wt] at this; exact this, ?_⟩
  have := h.k
  simp only [PyData.depth] at this
  cases k with
  | zero => omega
  | succ k => exact ⟨k, rfl, depth_all.mp (by omega)⟩
theorem cutS_mem {z : Str} {lo hi : Option Int} {p : Nat → Bool} (h : z.cps.toList.all p = true) : (cutS z lo hi).cps.toList.all p = true := by
  rw [List.all_eq_true] at h ⊢
  intro c hc
  unfold cutS at hc
  exact h c (List.mem_of_mem_drop (List.mem_of_mem_take (by simpa using hc)))
theorem app_mem {x y : Str} {p : Nat → Bool} (h : x.cps.toList.all p = true) (g : y.cps.toList.all p = true) : (x ++ y).cps.toList.all p = true := by
  show (x.cps ++ y.cps).toList.all p = true
  rw [Array.toList_append, List.all_append, h, g]
  rfl
theorem app_length (x y : Str) : (x ++ y).length = x.length + y.length := by
  show (x.cps ++ y.cps).size = _
  rw [Array.size_append]
  rfl
theorem wtAll_at {ds : List PyData} {i : Nat} {y : PyData} (h : ds[i]? = some y) : wtAll ds = wtAll (ds.take i) + (wt y + 2) + wtAll (ds.drop (i + 1)) := by
  obtain ⟨hi, rfl⟩ := List.getElem?_eq_some_iff.mp h
  have e := wtAll_take ds i
  rw [List.drop_eq_getElem_cons hi, wtAll] at e
  omega
theorem szM {n : Nat} (h : n ≤ 16000000) : n ≤ sizeLine := by rw [sizeLine_eq]; omega
theorem kd_tup_inv {x : PyData} (h : kdOf x = .tup) : ∃ ds, x = .tuple ds := by cases x <;> first | exact ⟨_, rfl⟩ | cases h
theorem kd_str_inv {x : PyData} (h : kdOf x = .str) : ∃ z, x = .str z := by cases x <;> first | exact ⟨_, rfl⟩ | cases h
theorem kd_int_inv {x : PyData} (h : kdOf x = .int) : ∃ z, x = .int z := by cases x <;> first | exact ⟨_, rfl⟩ | cases h
theorem kd_bl_inv {x : PyData} (h : kdOf x = .bl) : ∃ z, x = .bool z := by cases x <;> first | exact ⟨_, rfl⟩ | cases h
theorem rep_str_inv {K : PySem.W.Frag} {H : Hp} {bad : Addr → Prop} {v : V} {z : Str} (h : Rep K H bad v (.str z)) : v = .str z := by cases h; rfl
theorem rep_int_inv2 {K : PySem.W.Frag} {H : Hp} {bad : Addr → Prop} {v : V} {z : Int} (h : Rep K H bad v (.int z)) : v = .int z := by cases h; rfl
theorem rep_bl_inv {K : PySem.W.Frag} {H : Hp} {bad : Addr → Prop} {v : V} {z : Bool} (h : Rep K H bad v (.bool z)) : v = .bl z := by cases h; rfl
end OC

set_option Elab.async false
set_option linter.all false
set_option maxRecDepth 100000
set_option maxHeartbeats 4000000
/-! rising things; partings and things that are none -/
namespace OC
open PySem PySem.W PySem.Spec PyProof.Rows L2
def rLtD (K : PySem.W.Frag) : R2 := fun x y H Q => ∃ d e, Dp K H x d ∧ Dp K H y e ∧ alike d e = true ∧ d ≠ .none ∧ d.depth ≤ 60 ∧ Q (.bl (dataLt d e)) H
def rGeD (K : PySem.W.Frag) : R2 := fun x y H Q => ∃ d e, Dp K H x d ∧ Dp K H y e ∧ alike d e = true ∧ d ≠ .none ∧ d.depth ≤ 60 ∧ Q (.bl (!dataLt d e)) H
theorem op_ltD {X : Cx} (hu : X.A.units + 64 < cLine) : OpR X (compareOp .Lt) (rLtD X.K) := by
  intro pins s σ H x y v u Q I rx ry h
  obtain ⟨d, e, hd, he, al, ne, dp, q⟩ := h
  obtain ⟨as, r1⟩ := Dp.reads I d x v hd rx
  obtain ⟨bs, r2⟩ := Dp.reads I e y u he ry
  exact lt_data r1 r2 al ne (by omega) ⟨.bl _, H, I, rfl, q⟩
theorem op_geD {X : Cx} (hu : X.A.units + 64 < cLine) : OpR X (compareOp .GtE) (rGeD X.K) := by
  intro pins s σ H x y v u Q I rx ry h
  obtain ⟨d, e, hd, he, al, ne, dp, q⟩ := h
  obtain ⟨as, r1⟩ := Dp.reads I d x v hd rx
  obtain ⟨bs, r2⟩ := Dp.reads I e y u he ry
  exact ge_data r1 r2 al ne (by omega) ⟨.bl _, H, I, rfl, q⟩
/-- each less than the next -/
def risD (ds : List PyData) : Bool := (List.zipWith dataLt ds (ds.drop 1)).all id
/-- sorted of a list of texts -/
def rSortXsL (K : PySem.W.Frag) : List V → Hp → VK → Prop := fun vs H Q => ∃ (a : Addr) (ns : List Str), vs = [V.ref a] ∧ SqL K H a (ns.map V.str) ∧ ∀ z, H z = none → Q (.ref z) (upd H z (.lst ((ns.mergeSort strLe).map V.str)))
theorem cr_sortXsL {X : Cx} {k : Nat} (hr : Room k X.A) : CallR X (.builtin "sorted") (rSortXsL X.K) := by
  intro pins s σ H vs us Q I r h
  obtain ⟨a, ns, rfl, hs, q⟩ := h
  refine cr_sortDd hr pins s σ H _ us Q I r ⟨a, _, _, rfl, hs, dpAll_strs ns, fun d hd d' hd' => ?_, .inl (.inr fun d hd => ?_), fun d hd => ?_, fun z us' nz pm du => ?_⟩
  · obtain ⟨x, _, rfl⟩ := List.mem_map.mp hd
    obtain ⟨y, _, rfl⟩ := List.mem_map.mp hd'
    rfl
  · obtain ⟨x, _, rfl⟩ := List.mem_map.mp hd
    exact ⟨fun z => (nomatch z), fun xs z => (nomatch z)⟩
  · obtain ⟨x, _, rfl⟩ := List.mem_map.mp hd
    simp [PyData.depth]
  · rw [sort_map] at du
    rw [dpAll_str_inv du]
    exact q z nz
theorem eqvAll_strs : ∀ a b : List Str, PyData.eqvAll (a.map PyData.str) (b.map PyData.str) = decide (a = b)
  | [], [] => rfl
  | [], _ :: _ => by simp [PyData.eqvAll]
  | _ :: _, [] => by simp [PyData.eqvAll]
  | x :: a, y :: b => by
    simp only [List.map_cons, PyData.eqvAll, PyData.eqv, eqvAll_strs a b]
    by_cases h : x = y
    · subst h; simp
    · have : (x == y) = false := by simpa using h
      rw [this]; simp [h]
theorem eqv_tx (a b : List Str) : PyData.eqv (txD a) (txD b) = decide (a = b) := by simp only [txD, PyData.eqv, eqvAll_strs]
theorem eqv_lx (a b : List Str) : PyData.eqv (.list (a.map .str)) (.list (b.map .str)) = decide (a = b) := by simp only [PyData.eqv, eqvAll_strs]
def isStD : PyData → Bool
  | .str _ => true
  | _ => false
def stD : PyData → Str
  | .str z => z
  | _ => ""
def inG (grp : List Str) : PyData → Bool
  | .str z => decide (z ∈ grp)
  | _ => false
def itemsD : PyData → List PyData
  | .tuple ds => ds
  | _ => []
/-- a rising tuple of texts, not empty -/
def strPart : PyData → Bool
  | .tuple ds => !ds.isEmpty && ds.all isStD && risD ds
  | _ => false
def partB (grp : List Str) : PyData → Bool
  | .tuple ds => !ds.isEmpty && ds.all (inG grp) && risD ds
  | _ => false
def namesD (ds : List PyData) : List Str := ds.flatMap fun d => (itemsD d).map stD
def partingB (grp : List Str) : PyData → Bool
  | .tuple ds => decide (2 ≤ ds.length) && ds.all (partB grp) && risD ds && decide ((namesD ds).mergeSort strLe = grp)
  | _ => false
def dueB (grp : List Str) : PyData → Bool
  | .tuple ds => decide (2 ≤ ds.length) && ds.all strPart && decide ((namesD ds).mergeSort strLe = grp) && risD ds
  | _ => false
theorem strs_of : ∀ {ds : List PyData}, ds.all isStD = true → ds = (ds.map stD).map PyData.str
  | [], _ => rfl
  | d :: ds, h => by
    rw [List.all_cons, Bool.and_eq_true] at h
    cases d with
    | str z => rw [List.map_cons, List.map_cons, ← strs_of h.2]; rfl
    | _ => exact absurd h.1 Bool.false_ne_true
theorem tx_of {d : PyData} (h : strPart d = true) : d = txD ((itemsD d).map stD) := by
  cases d with
  | tuple ds =>
    simp only [strPart, Bool.and_eq_true] at h
    unfold txD
    exact congrArg PyData.tuple (strs_of h.1.2)
  | _ => exact absurd h Bool.false_ne_true
theorem inG_st {grp : List Str} {d : PyData} (h : inG grp d = true) : isStD d = true ∧ stD d ∈ grp := by
  cases d with
  | str z => exact ⟨rfl, of_decide_eq_true h⟩
  | _ => exact absurd h Bool.false_ne_true
theorem partB_str {grp : List Str} {d : PyData} (h : partB grp d = true) : strPart d = true := by
  cases d with
  | tuple ds =>
    simp only [partB, strPart, Bool.and_eq_true, List.all_eq_true] at h ⊢
    exact ⟨⟨h.1.1, fun x hx => (inG_st (h.1.2 x hx)).1⟩, h.2⟩
  | _ => exact absurd h Bool.false_ne_true
theorem parting_due (grp : List Str) (x : PyData) : partingB grp x = dueB grp x := by
  cases x with
  | tuple ds =>
    have h1 : ds.all (partB grp) = true → ds.all strPart = true := fun h => by
      rw [List.all_eq_true] at h ⊢
      exact fun d hd => partB_str (h d hd)
    have h2 : ds.all strPart = true → (namesD ds).mergeSort strLe = grp → ds.all (partB grp) = true := fun h e => by
      rw [List.all_eq_true] at h ⊢
      intro d hd
      have hs := h d hd
      cases d with
      | tuple es =>
        simp only [partB, strPart, Bool.and_eq_true, List.all_eq_true] at hs ⊢
        refine ⟨⟨hs.1.1, fun y hy => ?_⟩, hs.2⟩
        have hst := hs.1.2 y hy
        cases y with
        | str z =>
          refine decide_eq_true ?_
          rw [← e]
          exact (List.mergeSort_perm _ _).mem_iff.mpr (List.mem_flatMap.mpr ⟨_, hd, List.mem_map.mpr ⟨_, hy, rfl⟩⟩)
        | _ => exact absurd hst Bool.false_ne_true
      | _ => exact absurd hs Bool.false_ne_true
    simp only [partingB, dueB]
    rw [Bool.eq_iff_iff]
    simp only [Bool.and_eq_true, decide_eq_true_eq]
    constructor
    · rintro ⟨⟨⟨a, b⟩, c⟩, e⟩
      exact ⟨⟨⟨a, h1 b⟩, e⟩, c⟩
    · rintro ⟨⟨⟨a, b⟩, e⟩, c⟩
      exact ⟨⟨⟨a, h2 b e⟩, c⟩, e⟩
  | _ => rfl
/-- of parts: they are tuples of texts -/
theorem parts_of {ds : List PyData} (h : ds.all strPart = true) : ds = (ds.map fun d => (itemsD d).map stD).map txD := by
  induction ds with
  | nil => rfl
  | cons d ds ih =>
    rw [List.all_cons, Bool.and_eq_true] at h
    rw [List.map_cons, List.map_cons, ← ih h.2, ← tx_of h.1]
theorem parts_names (ds : List PyData) : namesD ds = (ds.map fun d => (itemsD d).map stD).flatten := by
  unfold namesD
  rw [List.flatMap_def]
theorem alike_str (a b : PyData) (ha : isStD a = true) (hb : isStD b = true) : alike a b = true := by
  cases a with
  | str x =>
    cases b with
    | str y => rfl
    | _ => exact absurd hb Bool.false_ne_true
  | _ => exact absurd ha Bool.false_ne_true
theorem alikeAll_strs : ∀ a b : List Str, alikeAll (a.map PyData.str) (b.map PyData.str) = true
  | [], _ => by simp [alikeAll]
  | _ :: _, [] => by simp [alikeAll]
  | x :: a, y :: b => by simp [alikeAll, alike, alikeAll_strs a b]
theorem tx_depth (a : List Str) : (txD a).depth ≤ 1 := by
  unfold txD
  simp only [PyData.depth]
  have : PyData.depthAll (a.map PyData.str) ≤ 0 := depth_all.mpr fun d hd => by
    obtain ⟨z, _, rfl⟩ := List.mem_map.mp hd
    simp [PyData.depth]
  omega
/-- texts as things are data -/
theorem rep_strsV {K : PySem.W.Frag} {H : Hp} {bad : Addr → Prop} : ∀ {zs : List Str} {xs : List V}, RepAll K H bad xs (zs.map PyData.str) → xs = zs.map V.str
  | [], _, h => by cases h; rfl
  | z :: zs, _, h => by
    cases h with
    | cons h1 h2 => rw [rep_strsV h2, rep_str_inv h1]; rfl
theorem rep_txs {K : PySem.W.Frag} {H : Hp} {bad : Addr → Prop} : ∀ {P : List (List Str)} {xs : List V}, RepAll K H bad xs (P.map txD) → DpAll K H xs (P.map txD)
  | [], _, h => by cases h; exact .nil
  | z :: P, _, h => by
    cases h with
    | cons h1 h2 =>
      obtain ⟨a, ys, rfl, hA, ha⟩ := rep_tup h1
      refine .cons (.tup hA ?_) (rep_txs h2)
      rw [rep_strsV ha]
      exact dpAll_strs z
theorem any_inG {K : PySem.W.Frag} {H : Hp} {bad : Addr → Prop} {v : V} {d : PyData} (r : Rep K H bad v d) (grp : List Str) : (grp.any fun z => isSt z v) = inG grp d := by
  cases r with
  | str x =>
    show (grp.any fun z => z == x) = decide (x ∈ grp)
    rw [Bool.eq_iff_iff, List.any_eq_true, decide_eq_true_eq]
    constructor
    · rintro ⟨z, hz, e⟩
      rw [← eq_of_beq e]
      exact hz
    · exact fun h => ⟨x, h, beq_self_eq_true x⟩
  | _ => exact List.any_eq_false.mpr fun z _ => Bool.false_ne_true
theorem cut1 (xs : List V) : cutV xs (some 1) none = xs.drop 1 := by
  cases xs with
  | nil => unfold cutV; simp
  | cons x xs => exact cut_from (by decide) (by simp; omega)
theorem getD_at {ds : List PyData} {k : Nat} (h : k < ds.length) : ds.getD k .none = ds[k] := by
  rw [List.getD_eq_getElem?_getD, List.getElem?_eq_getElem h]
  rfl
/-- rising, by places -/
theorem risD_places (ds : List PyData) : risD ds = ((List.range (ds.length - 1)).filter fun k => !dataLt (ds.getD k .none) (ds.getD (k + 1) .none)).isEmpty := by
  rw [Bool.eq_iff_iff, List.isEmpty_iff, List.filter_eq_nil_iff]
  unfold risD
  rw [List.all_eq_true]
  constructor
  · intro h k hk
    have hk : k < ds.length - 1 := by simpa using hk
    have := h _ (List.mem_iff_getElem.mpr ⟨k, by rw [List.length_zipWith, List.length_drop]; omega, rfl⟩)
    rw [List.getElem_zipWith, List.getElem_drop] at this
    rw [getD_at (by omega), getD_at (by omega)]
    have e : dataLt ds[k] ds[k + 1] = true := by
      have h2 : 1 + k = k + 1 := by omega
      simpa [h2] using this
    rw [e]
    decide
  · intro h b hb
    obtain ⟨k, hk, rfl⟩ := List.mem_iff_getElem.mp hb
    rw [List.length_zipWith, List.length_drop] at hk
    have := h k (by simp; omega)
    rw [getD_at (by omega), getD_at (by omega)] at this
    rw [List.getElem_zipWith, List.getElem_drop]
    have h2 : 1 + k = k + 1 := by omega
    simpa [h2] using this
theorem strOk_nz {x : Str} {g : Nat} (h : nz g (.str x) = true) : PyData.strOk x = true := by
  unfold PyData.strOk
  rw [← Array.all_toList]
  have h : (x.cps.toList.all fun c => decide (c < 1000000)) = true := by simpa only [nz] using h
  refine List.all_eq_true.mpr fun c hc => decide_eq_true ?_
  have := of_decide_eq_true (List.all_eq_true.mp h c hc)
  omega
theorem layAll_strs : ∀ s : List Str, (∀ x ∈ s, PyData.strOk x = true) → PyData.canLayAll0 (s.map PyData.str) = true
  | [], _ => rfl
  | x :: s, h => by
    rw [List.map_cons]
    simp only [PyData.canLayAll0, PyData.canLay0, layAll_strs s fun y hy => h y (List.mem_cons_of_mem _ hy), h x List.mem_cons_self, Bool.and_true]
theorem shaped_txO (a : List Str) (h : ∀ x ∈ a, PyData.strOk x = true) : SeqAt.shaped (txD a) = true := by
  unfold SeqAt.shaped
  rw [depth_tx]
  unfold txD
  simp only [PyData.canLay0, layAll_strs a h, Bool.true_and]
  rfl
theorem shaped_lx (a : List Str) (h : ∀ x ∈ a, PyData.strOk x = true) : SeqAt.shaped (.list (a.map PyData.str)) = true := by
  unfold SeqAt.shaped
  have : PyData.depthAll (a.map PyData.str) ≤ 0 := depth_all.mpr fun d hd => by
    obtain ⟨z, _, rfl⟩ := List.mem_map.mp hd
    simp [PyData.depth]
  simp only [PyData.canLay0, layAll_strs a h, Bool.true_and, PyData.depth]
  exact decide_eq_true (by omega)
theorem wt_strs : ∀ z : List Str, 4 * z.length ≤ wtAll (z.map PyData.str)
  | [] => Nat.le_refl _
  | x :: z => by
    have := wt_strs z
    rw [List.map_cons, wtAll, wt, List.length_cons]
    omega
theorem wt_parts : ∀ P : List (List Str), 4 * P.flatten.length ≤ wtAll (P.map txD)
  | [] => Nat.le_refl _
  | z :: P => by
    have h1 := wt_parts P
    have h2 := wt_strs z
    rw [List.map_cons, wtAll, List.flatten_cons, List.length_append]
    unfold txD at h1 ⊢
    rw [wt]
    omega
theorem nz_parts {g : Nat} {P : List (List Str)} (h : ∀ d ∈ P.map txD, nz g d = true) : ∀ x ∈ P.flatten, PyData.strOk x = true := fun x hx => by
  obtain ⟨z, mz, mx⟩ := List.mem_flatten.mp hx
  have := h _ (List.mem_map_of_mem mz)
  unfold txD at this
  simp only [nz] at this
  exact strOk_nz (nzAll_iff.mp this _ (List.mem_map_of_mem mx))
theorem alike_parts (P : List (List Str)) : AllAlike (P.map txD) := fun d hd e he => by
  obtain ⟨a, _, rfl⟩ := List.mem_map.mp hd
  obtain ⟨b, _, rfl⟩ := List.mem_map.mp he
  exact alike_tx a b
theorem parts_some (P : List (List Str)) : ∀ d ∈ P.map txD, d ≠ .none ∧ d.depth ≤ 60 := fun d hd => by
  obtain ⟨a, _, rfl⟩ := List.mem_map.mp hd
  exact ⟨fun z => (nomatch z), Nat.le_trans (tx_depth a) (by decide)⟩
theorem Thg.items {g B k : Nat} {d : PyData} (h : Thg g B k d) : 2 * (itemsD d).length ≤ B ∧ ∀ e ∈ itemsD d, Thg g B k e := by
  cases d with
  | tuple ds =>
    obtain ⟨h1, h2, k', rfl, h3⟩ := h.tup
    have := wtAll_len ds
    exact ⟨by show 2 * ds.length ≤ B; omega, fun e he => ⟨h1 e he, by have := wtAll_mem (show e ∈ ds from he); omega, Nat.le_succ_of_le (h3 e he)⟩⟩
  | _ => exact ⟨Nat.zero_le _, fun e he => (nomatch he)⟩
end OC

set_option Elab.async false
set_option linter.all false
set_option maxRecDepth 100000
set_option maxHeartbeats 4000000
/-! [k for k in range(1, n) if t[k - 1] >= t[k]] -/
namespace OC
open PySem PySem.W PySem.Spec PyProof.Rows L2
def nris (ds : List PyData) (k : Nat) : Bool := !dataLt (ds.getD k .none) (ds.getD (k + 1) .none)
theorem lc_rise {ds : List PyData} {σ : L2.St} {H : Hp} {Qd : Addr → Hp → Prop} {i : Nat} {sl : List Nat} {tt : TT} (hz : ds.length ≤ 1000) (hw : ∀ x : Option V, wipe ((wipe σ sl).set i x) sl = wipe σ sl) (hi : i < (wipe σ sl).length)
    (htt : ∀ (k : Nat) (H' : Hp) (Q' : Bool → Hp → Prop), k + 1 < ds.length → Same H H' → Q' (!dataLt (ds.getD k .none) (ds.getD (k + 1) .none)) H' → tt ((wipe σ sl).set i (some (.int (1 + (k : Int))))) H' Q')
    (hd : ∀ D H' ws, Same H H' → H D = none → H' D = some (.lst ws) → ws.isEmpty = risD ds → Qd D H') :
    LcGoal (Itr 1 (ds.length - 1)) (gName i) tt (tVar i) sl σ H Qd := by
  intro D nD
  refine lc_range (lo := 1) (n := ds.length - 1) (fun k H' => Same H H' ∧ H' D = some (.lst (((List.range k).filter (nris ds)).map fun k : Nat => V.int (1 + (k : Int))))) ⟨same_upd nD, upd_same⟩ (fun k H1 hk hP => ?_) (fun H' hP => ?_)
  · obtain ⟨sm, eD⟩ := hP
    refine ⟨hw _, htt k _ _ (by omega) sm ?_⟩
    have ll : ((List.range k).filter (nris ds)).length ≤ k := by
      have := List.length_filter_le (nris ds) (List.range k)
      rw [List.length_range] at this
      exact this
    show if nris ds k = true then _ else _
    cases hb : nris ds k with
    | true =>
      refine iteT ⟨_, by rw [List.getElem?_set_self hi], _, eD, ?_, same_mut sm nD, ?_⟩
      · rw [List.length_map]
        exact small1000 (by omega)
      · rw [upd_same, List.range_succ, List.filter_append, List.map_append, List.filter_cons_of_pos hb]
        rfl
    | false =>
      refine iteF ⟨sm, ?_⟩
      rw [eD, List.range_succ, List.filter_append, List.map_append, List.filter_cons_of_neg (by rw [hb]; decide)]
      simp
  · obtain ⟨sm, eD⟩ := hP
    refine hd D H' _ sm nD eD ?_
    rw [risD_places, List.isEmpty_map]
    rfl
theorem drop_at {α : Type} {l : List α} {i : Nat} {x : α} (h : l[i]? = some x) : l.take (i + 1) = l.take i ++ [x] := by
  rw [List.take_add_one, h]
  rfl
theorem names_snoc (ds : List PyData) (e : PyData) : namesD (ds ++ [e]) = namesD ds ++ (itemsD e).map stD := by
  unfold namesD
  rw [List.flatMap_append]
  simp
end OC

set_option Elab.async false
set_option linter.all false
set_option maxRecDepth 100000
set_option maxHeartbeats 4000000
namespace OC
open PySem PySem.Spec PyProof.Rows L2
def topS (i : Nat) : Stmt := PySem.Challenge.pw_opencalls_k35_partings_or_not.main.body.getD i (.Pass ⟨0, 0, 0, 0⟩)
abbrev s_is_rising : Stmt := topS 1
abbrev N_is_rising : List Str := ["things", "one", "other"]
theorem sc_is_rising : FnScope N_is_rising ["things"] (defScope s_is_rising) := ⟨rfl, rfl, rfl, by decide +kernel, rfl, by decide +kernel, by decide +kernel⟩
abbrev s_is_parting : Stmt := topS 3
abbrev N_is_parting : List Str := ["group", "thing", "part"]
theorem sc_is_parting : FnScope N_is_parting ["group", "thing"] (defScope s_is_parting) := ⟨rfl, rfl, rfl, by decide +kernel, rfl, by decide +kernel, by decide +kernel⟩
abbrev s_is_part : Stmt := topS 4
abbrev N_is_part : List Str := ["group", "thing", "name"]
theorem sc_is_part : FnScope N_is_part ["group", "thing"] (defScope s_is_part) := ⟨rfl, rfl, rfl, by decide +kernel, rfl, by decide +kernel, by decide +kernel⟩
abbrev s_names_in : Stmt := topS 5
abbrev N_names_in : List Str := ["parting", "part", "name"]
theorem sc_names_in : FnScope N_names_in ["parting"] (defScope s_names_in) := ⟨rfl, rfl, rfl, by decide +kernel, rfl, by decide +kernel, by decide +kernel⟩
abbrev s__law_draws : Stmt := topS 7
abbrev N__law_draws : List Str := ["_law_script", "_law_cells", "_law_cell"]
theorem sc__law_draws : FnScope N__law_draws ["_law_script"] (defScope s__law_draws) := ⟨rfl, rfl, rfl, by decide +kernel, rfl, by decide +kernel, by decide +kernel⟩
abbrev s__law_next : Stmt := topS 8
abbrev N__law_next : List Str := ["_law_drawn_here", "_law_many", "_law_cells", "_law_turn", "_law_rests", "_law_spot", "_law_digit", "_law_mixed", "_law_again"]
theorem sc__law_next : FnScope N__law_next ["_law_drawn_here", "_law_many"] (defScope s__law_next) := ⟨rfl, rfl, rfl, by decide +kernel, rfl, by decide +kernel, by decide +kernel⟩
abbrev s__law_one : Stmt := topS 9
abbrev N__law_one : List Str := ["_law_drawn_here", "_law_things"]
theorem sc__law_one : FnScope N__law_one ["_law_drawn_here", "_law_things"] (defScope s__law_one) := ⟨rfl, rfl, rfl, by decide +kernel, rfl, by decide +kernel, by decide +kernel⟩
abbrev s__law_names : Stmt := topS 10
abbrev N__law_names : List Str := ["_law_drawn_here", "_law_many", "_law_letters", "_law_k", "_law_stem", "_law_spot", "_law_first"]
theorem sc__law_names : FnScope N__law_names ["_law_drawn_here", "_law_many"] (defScope s__law_names) := ⟨rfl, rfl, rfl, by decide +kernel, rfl, by decide +kernel, by decide +kernel⟩
abbrev s__law_spoilt : Stmt := topS 11
abbrev N__law_spoilt : List Str := ["_law_drawn_here", "_law_thing", "_law_spot", "_law_some"]
theorem sc__law_spoilt : FnScope N__law_spoilt ["_law_drawn_here", "_law_thing"] (defScope s__law_spoilt) := ⟨rfl, rfl, rfl, by decide +kernel, rfl, by decide +kernel, by decide +kernel⟩
abbrev s__law_drawn : Stmt := topS 12
abbrev N__law_drawn : List Str := ["_law_drawn_here", "_law_group", "_law_name", "_law_parts", "_law_part", "_law_found"]
theorem sc__law_drawn : FnScope N__law_drawn ["_law_drawn_here", "_law_group"] (defScope s__law_drawn) := ⟨rfl, rfl, rfl, by decide +kernel, rfl, by decide +kernel, by decide +kernel⟩
abbrev s__law_due : Stmt := topS 13
abbrev N__law_due : List Str := ["_law_group", "_law_thing", "_law_names_here", "_law_part", "_law_name", "_law_k"]
theorem sc__law_due : FnScope N__law_due ["_law_group", "_law_thing"] (defScope s__law_due) := ⟨rfl, rfl, rfl, by decide +kernel, rfl, by decide +kernel, by decide +kernel⟩
abbrev s_law : Stmt := topS 14
abbrev N_law : List Str := ["_law_script", "_law_drawn_here", "_law_turn", "_law_group", "_law_one_here", "_law_other", "_law_some", "_law_name", "_law_part", "_law_k", "_law_thing", "_law_kept", "_law_found"]
theorem sc_law : FnScope N_law ["_law_script"] (defScope s_law) := ⟨rfl, rfl, rfl, by decide +kernel, rfl, by decide +kernel, by decide +kernel⟩
structure Top (K : PySem.W.Frag) (mg : Str → Option Value) : Prop where
  b_all : mg "all" = none
  b_bool : mg "bool" = none
  b_int : mg "int" = none
  b_isinstance : mg "isinstance" = none
  b_len : mg "len" = none
  b_list : mg "list" = none
  b_range : mg "range" = none
  b_repr : mg "repr" = none
  b_sorted : mg "sorted" = none
  b_str : mg "str" = none
  b_tuple : mg "tuple" = none
  b_zip : mg "zip" = none
  d_is_rising : Df K mg "is_rising" s_is_rising ["things"]
  d_is_parting : Df K mg "is_parting" s_is_parting ["group", "thing"]
  d_is_part : Df K mg "is_part" s_is_part ["group", "thing"]
  d_names_in : Df K mg "names_in" s_names_in ["parting"]
  d__law_draws : Df K mg "_law_draws" s__law_draws ["_law_script"]
  d__law_next : Df K mg "_law_next" s__law_next ["_law_drawn_here", "_law_many"]
  d__law_one : Df K mg "_law_one" s__law_one ["_law_drawn_here", "_law_things"]
  d__law_names : Df K mg "_law_names" s__law_names ["_law_drawn_here", "_law_many"]
  d__law_spoilt : Df K mg "_law_spoilt" s__law_spoilt ["_law_drawn_here", "_law_thing"]
  d__law_drawn : Df K mg "_law_drawn" s__law_drawn ["_law_drawn_here", "_law_group"]
  d__law_due : Df K mg "_law_due" s__law_due ["_law_group", "_law_thing"]
section
variable {P : Program} {w : World} {K : PySem.W.Frag} {mg : Str → Option Value} {base : Heap}
def sp_whole (K : PySem.W.Frag) : Sp := fun vs H Q _ => ∃ (v : V) (k : Kd), vs = [v] ∧ KdOf K H v k ∧ Q (.bl (decide (k = .int))) H

end
end OC

set_option Elab.async false
set_option linter.all false
set_option maxRecDepth 100000
set_option maxHeartbeats 4000000
namespace OC
open PySem PySem.Spec PyProof.Rows L2
section
variable {P : Program} {w : World} {K : PySem.W.Frag} {mg : Str → Option Value} {base : Heap}
def sp_next : Sp := fun vs H Q _ => ∃ (d c e : Addr) (t m : Int), vs = [.ref d, .int m] ∧ Drw H d c e t ∧ t < 1000000 ∧ 0 < m ∧ m < 100000000000000000000 ∧ ∀ H' r, Kept d e H H' → Drw H' d c e (t + 1) → 0 ≤ r → r < m → Q (.int r) H'
theorem ok__law_next (T : Top K mg) : Ok P w K mg base 1 "_law_next" ["_law_drawn_here", "_law_many"] sp_next := by
  refine T.d__law_next.ok sc__law_next (fun vs H Q E h => ?_) (fun f cdv A outer s H vs Q E hr h => ?_)
  · obtain ⟨d, c, e, t, m, rfl, _⟩ := h
    rfl
  · obtain ⟨d, c, e, t, m, rfl, D0, ht, hm0, hm1, q⟩ := h
    obtain ⟨hd, ⟨cells, rests, h1, h2, hl, h0, h63, hp⟩, cd, ed, ce, t0⟩ := id D0
    refine ⟨_, ((pss_cons (ps_asg (pv 0) (pg_unl (by rfl) (pgs_cons (pg_name (i := 2) sc__law_next.nd rfl (.inl rfl)) (pgs_cons (pg_name (i := 3) sc__law_next.nd rfl (.inl rfl)) (pgs_cons (pg_name (i := 4) sc__law_next.nd rfl (.inl rfl)) pgs_nil)))))
      (pss_cons (ps_set (i := 5) sc__law_next.nd rfl (.inl rfl) (pe_op op_mod (pv 3) (pe_callB call_len_seq (by rfl) T.b_len (by decide +kernel) (pa_cons (pv 2) pa_nil))))
      (pss_cons (ps_asg (pe_op op_add (pv 3) pe_int) (pg_sub (pv 0) pe_int set_list))
      (pss_cons (ps_if (pt_cmpR op_gt (pe_ix ix_list (pv 4) (pv 5) (fun _ _ => rfl)) pe_int (nomark _))
        (pss_cons (ps_set (i := 6) sc__law_next.nd rfl (.inl rfl) (pe_op op_mod (pe_ix ix_list (pv 4) (pv 5) (fun _ _ => rfl)) (pv 1)))
        (pss_cons (ps_asg (pe_op op_fdivW (pe_ix ix_list (pv 4) (pv 5) (fun _ _ => rfl)) (pv 1)) (pg_sub (pv 4) (pv 5) set_list))
        (pss_one (ps_ret (pv 6)))))
        pss_nil)
      (pss_cons (ps_set (i := 7) sc__law_next.nd rfl (.inl rfl) (pe_op op_mod (pe_op op_pow (pe_op op_add (pe_op op_add (pe_op op_mod (pe_ix ix_list (pv 2) (pv 5) (fun _ _ => rfl)) pe_int) (pe_op op_mul pe_int (pv 3))) pe_int) pe_int) pe_int))
      (pss_cons (ps_set (i := 8) sc__law_next.nd rfl (.inl rfl) (pe_op op_mod (pe_op op_pow (pe_op op_add (pe_op op_add (pv 7) (pe_op op_mul (pe_op op_mul pe_int (pv 3)) (pv 3))) pe_int) pe_int) pe_int))
      (pss_one (ps_ret (pe_op op_mod (pe_op op_mod (pe_op op_add (pe_op op_mul (pv 8) pe_int) (pv 7)) pe_int) (pv 1))))))))))), ?_⟩
    refine ⟨.ref d, rfl, d, _, rfl, .inl (.inl hd), rfl, .ref c, [.int t, .ref e], rfl, .int t, [.ref e], rfl, .ref e, [], rfl, rfl, ?_⟩
    refine ⟨.int t, rfl, .ref c, rfl, c, _, rfl, .inl (.inl (.inl h1)), t, (cells.length : Int), rfl, by rw [List.length_map], by omega, ?_⟩
    have z0 : 0 ≤ t % (cells.length : Int) := Int.emod_nonneg _ (by omega)
    have z1 : t % (cells.length : Int) < (cells.length : Int) := Int.emod_lt_of_pos _ (by omega)
    dsimp only
    generalize t % (cells.length : Int) = z at z0 z1 ⊢
    refine ⟨.int t, rfl, t, 1, rfl, rfl, .ref d, rfl, d, _, 1, 1, rfl, rfl, hd, rfl, ?_⟩
    have hd1 : (upd H d (.lst ([V.ref c, .int t, .ref e].set 1 (.int (t + 1))))) d = some (.lst [.ref c, .int (t + 1), .ref e]) := upd_same
    have hc1 : (upd H d (.lst ([V.ref c, .int t, .ref e].set 1 (.int (t + 1))))) c = some (.lst (cells.map V.int)) := by
      rw [upd_ne cd]; exact h1
    have he1 : (upd H d (.lst ([V.ref c, .int t, .ref e].set 1 (.int (t + 1))))) e = some (.lst (rests.map V.int)) := by
      rw [upd_ne ed]; exact h2
    have k1 : Kept d e H (upd H d (.lst ([V.ref c, .int t, .ref e].set 1 (.int (t + 1))))) := fun b o h n _ => by
      rw [upd_ne n]; exact h
    generalize upd H d (.lst ([V.ref c, .int t, .ref e].set 1 (.int (t + 1)))) = H1 at hd1 hc1 he1 k1 ⊢
    have D1 : Drw H1 d c e (t + 1) := ⟨hd1, ⟨cells, rests, hc1, he1, hl, h0, h63, hp⟩, cd, ed, ce, by omega⟩
    obtain ⟨x, mx, gx, ax⟩ := at_int (xs := rests) z0 (by omega)
    obtain ⟨y, my, gy, ay⟩ := at_int (xs := cells) z0 z1
    have x0 := hp x mx
    refine ⟨.ref e, rfl, .int z, rfl, e, _, z, .int x, rfl, rfl, .inl (.inl he1), ax, x, 0, rfl, rfl, _, rfl, ite2 (fun g => ?_) (fun g => ?_)⟩
    · refine ⟨.ref e, rfl, .int z, rfl, e, _, z, .int x, rfl, rfl, .inl (.inl he1), ax, .int m, rfl, x, m, rfl, rfl, hm0, ?_⟩
      refine ⟨.ref e, rfl, .int z, rfl, e, _, z, .int x, rfl, rfl, .inl (.inl he1), ax, .int m, rfl, x, m, rfl, rfl, ⟨hm0, wide_m4 hm0 hm1⟩, .ref e, rfl, .int z, rfl, e, _, z, z.toNat, rfl, rfl, he1, ix_nat z0 (by rw [List.length_map]; omega), ?_⟩
      refine ⟨.int (x % m), rfl, q _ _ (k1.trans fun b o h _ n => ?_) ⟨?_, ⟨cells, rests.set z.toNat (x / m), ?_, ?_, by rw [List.length_set]; exact hl, h0, h63, fun v hv => ?_⟩, cd, ed, ce, by omega⟩ (Int.emod_nonneg _ (by omega)) (Int.emod_lt_of_pos _ hm0)⟩
      · rw [upd_ne n]; exact h
      · rw [upd_ne (Ne.symm ed)]; exact hd1
      · rw [upd_ne ce]; exact hc1
      · rw [upd_same, List.map_set]
      · rcases List.mem_or_eq_of_mem_set hv with h | h
        · exact hp v h
        · rw [h]; exact Int.ediv_nonneg x0 (by omega)
    · refine ⟨.ref c, rfl, .int z, rfl, c, _, z, .int y, rfl, rfl, .inl (.inl hc1), ay, y, 2147483629, rfl, rfl, (show (0 : Int) < 2147483629 by decide), .int t, rfl, 48271, t, rfl, rfl, .inl ⟨by decide, by decide⟩, _, _, rfl, rfl, _, 7717, rfl, rfl, _, 3, rfl, rfl, ⟨by decide, by decide, ?_⟩, _, 2147483587, rfl, rfl, (show (0 : Int) < 2147483587 by decide), ?_⟩
      · have := Int.emod_lt_of_pos y (show (0 : Int) < 2147483629 by decide)
        have := Int.emod_nonneg y (show (2147483629 : Int) ≠ 0 by decide)
        omega
      · dsimp only
        generalize hM : ((y % 2147483629 + 48271 * t + 7717) ^ Int.toNat 3) % 2147483587 = M
        have M0 : 0 ≤ M := by rw [← hM]; exact Int.emod_nonneg _ (by decide)
        have M1 : M < 2147483587 := by rw [← hM]; exact Int.emod_lt_of_pos _ (by decide)
        have tt : t * t ≤ 1000000 * 1000000 := Int.mul_le_mul (by omega) (by omega) t0 (by omega)
        have t00 : 0 ≤ t * t := Int.mul_nonneg t0 t0
        refine ⟨.int M, rfl, .int t, rfl, 6131, t, rfl, rfl, .inl ⟨by decide, by decide⟩, .int t, rfl, 6131 * t, t, rfl, rfl, .inl ⟨by omega, by omega⟩, M, 6131 * t * t, rfl, rfl, M + 6131 * t * t, 29, rfl, rfl, _, 3, rfl, rfl, ⟨by decide, by decide, ?_⟩, _, 2147483563, rfl, rfl, (show (0 : Int) < 2147483563 by decide), ?_⟩
        · rw [Int.mul_assoc]
          omega
        · dsimp only
          generalize ((M + 6131 * t * t + 29) ^ Int.toNat 3) % 2147483563 = N
          exact ⟨.int N, rfl, N, 2147483423, rfl, rfl, .inr ⟨by decide, by decide⟩, .int M, rfl, _, M, rfl, rfl, _, 4611686018427387847, rfl, rfl, (show (0 : Int) < 4611686018427387847 by decide), .int m, rfl, _, m, rfl, rfl, hm0, q H1 _ k1 D1 (Int.emod_nonneg _ (by omega)) (Int.emod_lt_of_pos _ hm0)⟩

def sp_draws (K : PySem.W.Frag) : Sp := fun vs H Q _ => ∃ (a : Addr) (ns : List Int), vs = [.ref a] ∧ SqL K H a (ns.map V.int) ∧ ns.length ≤ 63 ∧ ∀ H' d c e, Same H H' → Drw H' d c e 0 → Q (.ref d) H'
theorem ok__law_draws (T : Top K mg) : Ok P w K mg base 1 "_law_draws" ["_law_script"] (sp_draws K) := by
  refine T.d__law_draws.ok sc__law_draws (fun vs H Q E h => ?_) (fun f cdv A outer s H vs Q E hr h => ?_)
  · obtain ⟨a, ns, rfl, _⟩ := h
    rfl
  · obtain ⟨a, ns, rfl, hS, hl, q⟩ := h
    refine ⟨_, ((pss_cons (ps_set (i := 1) sc__law_draws.nd rfl (.inl rfl) (pe_op op_cat (pe_callTy call_list_of (by rfl) T.b_list (by decide +kernel) (pa_cons (pe_slice sl_list (pv 0) po_none (po_some pe_int)) pa_nil)) (pe_op op_rep (pe_lst (pa_cons pe_int pa_nil)) (pe_callTy call_int1 (by rfl) T.b_int (by decide +kernel) (pa_cons (pe_cmpR op_eq (pe_callB call_len_seq (by rfl) T.b_len (by decide +kernel) (pa_cons (pv 0) pa_nil)) pe_int (nomark _)) pa_nil)))))
      (pss_one (ps_ret (pe_lst (pa_cons (pv 1) (pa_cons pe_int (pa_cons (pe_lc (own := [("_law_cell", 2)]) (g := gName 2) (by rfl) sc__law_draws.nd (pi_list (pv 1)) (blkOk_by (own := [("_law_cell", 2)]) (N := N__law_draws) (sc := defScope s__law_draws) (by decide +kernel)) (fun _ _ _ _ _ => (pg_name (i := 2) sc__law_draws.nd rfl (.inl rfl))) (fun _ _ _ _ _ => pts_nil) (fun _ _ _ _ _ => (pe_op op_mul (pv 2) (pe_callTy call_int1 (by rfl) T.b_int (by decide +kernel) (pa_cons (pe_cmpR op_ge (pv 2) (pe_op op_pow pe_int pe_int) (nomark _)) pa_nil))))) pa_nil)))))))), ?_⟩
    refine ⟨.ref a, rfl, 63, rfl, a, ns.map V.int, rfl, hS, fun l nl => ?_⟩
    rw [cut_upto (by decide), List.take_of_length_le (by rw [List.length_map]; exact hl)]
    generalize h1 : upd H l _ = H1
    obtain ⟨s1, e1⟩ := new_of h1 nl
    refine ⟨l, _, rfl, .inl (.inl (.inl e1)), fun l2 nl2 => ?_⟩
    generalize h2 : upd H1 l2 _ = H2
    obtain ⟨s2, e2⟩ := new_of h2 nl2
    refine ⟨sz1000 (by decide : (1 : Nat) ≤ 1000), fun u nu => ?_⟩
    generalize h3 : upd H2 u _ = H3
    obtain ⟨s3, e3⟩ := new_of h3 nu
    have t3 := (s1.trans s2).trans s3
    refine ⟨.ref a, rfl, a, _, rfl, .inl (sql_same t3 hS), rfl, .inr ⟨_, rfl, ?_⟩⟩
    generalize hk : decide (V.int (((ns.map V.int).length : Nat) : Int) = V.int 0) = kb
    have hkb : kb = true ↔ ns.length = 0 := by
      rw [← hk, decide_eq_true_iff, List.length_map]
      exact ⟨fun z => by have := V.int.inj z; omega, fun z => by rw [z]; rfl⟩
    refine ⟨u, _, _, rfl, rfl, e3, by cases kb <;> decide, by cases kb <;> decide, by cases kb <;> decide, fun p np => ?_⟩
    have ez : (List.replicate (Int.toNat (if kb = true then 1 else 0)) [V.int 0]).flatten = (if kb = true then [(0 : Int)] else []).map V.int := by cases kb <;> rfl
    rw [ez]
    generalize h4 : upd H3 p _ = H4
    obtain ⟨s4, e4⟩ := new_of h4 np
    refine ⟨l2, p, _, _, rfl, rfl, (s3.trans s4) _ _ e2, e4, Nat.le_of_lt (small1000 (by rw [List.length_map, List.length_map]; cases kb <;> simp <;> omega)), fun N nN => ?_⟩
    rw [← List.map_append]
    generalize h5 : upd H4 N _ = H5
    obtain ⟨s5, e5⟩ := new_of h5 nN
    have l0 : 0 < (ns ++ (if kb = true then [(0 : Int)] else [])).length ∧ (ns ++ (if kb = true then [(0 : Int)] else [])).length ≤ 63 := by
      rw [List.length_append]
      cases kb with
      | true =>
        have := hkb.mp rfl
        simp
        omega
      | false =>
        have : ¬ ns.length = 0 := fun z => by
          have := hkb.mpr z
          cases this
        simp
        omega
    generalize ns ++ (if kb = true then [(0 : Int)] else []) = cells at e5 l0
    have t5 := (t3.trans s4).trans s5
    refine ⟨.ref N, rfl, .ref N, rfl, N, rfl, ⟨_, .inl (.inl e5)⟩, lc_listI bigI (.inl (.inl e5)) (by omega) (fun _ => rfl) (fun x H' Q' mx sm hQ => ?_) (fun D H6 s6 nD eD => ?_)⟩
    · refine ⟨.int x, rfl, .int x, rfl, 10, 18, rfl, rfl, ⟨by decide, by decide, by decide⟩, x, _, rfl, rfl, .inr ⟨_, rfl, x, _, rfl, rfl, .inr ?_, hQ⟩⟩
      split <;> exact ⟨by decide, by decide⟩
    refine ⟨sz1000 (by decide : (3 : Nat) ≤ 1000), fun d nd => ?_⟩
    generalize h7 : upd H6 d _ = H7
    obtain ⟨s7, e7⟩ := new_of h7 nd
    refine q H7 d N D ((t5.trans s6).trans s7) ⟨e7, ⟨cells, cells.map bigI, (s6.trans s7) _ _ e5, s7 _ _ eD, (List.length_map _).symm, l0.1, l0.2, fun x hx => ?_⟩, ?_, ?_, ?_, by decide⟩
    · obtain ⟨y, _, rfl⟩ := List.mem_map.mp hx
      exact bigI_pos y
    · exact fun z => by rw [← z, s6 _ _ e5] at nd; cases nd
    · exact fun z => by rw [← z, eD] at nd; cases nd
    · exact fun z => by rw [← z, e5] at nD; cases nD

end
end OC

set_option Elab.async false
set_option linter.all false
set_option maxRecDepth 100000
set_option maxHeartbeats 4000000
namespace OC
open PySem PySem.Spec PyProof.Rows L2
section
variable {P : Program} {w : World} {K : PySem.W.Frag} {mg : Str → Option Value} {base : Heap}
def sp_oneL : Sp := fun vs H Q _ => ∃ (d c e L : Addr) (t : Int) (ws : List V), vs = [.ref d, .ref L] ∧ Drw H d c e t ∧ t < 1000000 ∧ H L = some (.lst ws) ∧ ¬ Bd3 d c e L ∧ 0 < ws.length ∧ ws.length ≤ 100000 ∧ ∀ H' v, Kept d e H H' → Drw H' d c e (t + 1) → v ∈ ws → Q v H'
theorem ok__law_one (T : Top K mg) : Ok P w K mg base 2 "_law_one" ["_law_drawn_here", "_law_things"] sp_oneL := by
  have O__law_next := ok__law_next (P := P) (w := w) (base := base) T
  refine T.d__law_one.ok sc__law_one (fun vs H Q E h => ?_) (fun f cdv A outer s H vs Q E hr h => ?_)
  · obtain ⟨d, c, e, L, t, ws, rfl, _⟩ := h
    rfl
  · obtain ⟨d, c, e, L, t, ws, rfl, D0, ht, eL, bL, l0, l1, q⟩ := h
    refine ⟨_, ((pss_one (ps_ret (pe_ix ix_list (pv 1) (pe_callO O__law_next (hr.mono (by omega)) (by rfl) (pa_cons (pv 0) (pa_cons (pe_callB call_len_seq (by rfl) T.b_len (by decide +kernel) (pa_cons (pv 1) pa_nil)) pa_nil))) (fun _ _ => rfl))))), ?_⟩
    refine ⟨.ref L, rfl, .ref d, rfl, .ref L, rfl, L, ws, rfl, .inl (.inl (.inl eL)), d, c, e, t, _, rfl, D0, ht, by omega, by omega, fun H1 z k1 D1 z0 z1 => ?_⟩
    have hl : z.toNat < ws.length := by omega
    exact ⟨L, ws, z, ws[z.toNat], rfl, rfl, .inl (.inl (Drw.lst (c := c) k1 bL eL)), at_of (j := z.toNat) (by omega) (List.getElem?_eq_getElem hl), q H1 _ k1 D1 (List.getElem_mem hl)⟩

def sp_oneX : Sp := fun vs H Q _ => ∃ (d c e : Addr) (t : Int), vs = [.ref d, .str lettersS] ∧ Drw H d c e t ∧ t < 1000000 ∧ ∀ H' (x : Nat), Kept d e H H' → Drw H' d c e (t + 1) → 97 ≤ x → x ≤ 122 → Q (.str (SX.S [x])) H'
theorem ok__law_oneX (T : Top K mg) : Ok P w K mg base 2 "_law_one" ["_law_drawn_here", "_law_things"] sp_oneX := by
  have O__law_next := ok__law_next (P := P) (w := w) (base := base) T
  refine T.d__law_one.ok sc__law_one (fun vs H Q E h => ?_) (fun f cdv A outer s H vs Q E hr h => ?_)
  · obtain ⟨d, c, e, t, rfl, _⟩ := h
    rfl
  · obtain ⟨d, c, e, t, rfl, D0, ht, q⟩ := h
    refine ⟨_, ((pss_one (ps_ret (pe_ix ix_str (pv 1) (pe_callO O__law_next (hr.mono (by omega)) (by rfl) (pa_cons (pv 0) (pa_cons (pe_callB call_len_str (by rfl) T.b_len (by decide +kernel) (pa_cons (pv 1) pa_nil)) pa_nil))) (fun _ _ => rfl))))), ?_⟩
    refine ⟨.str lettersS, rfl, .ref d, rfl, .str lettersS, rfl, _, rfl, by decide +kernel, d, c, e, t, _, rfl, D0, ht, by rw [letters_len]; decide, by rw [letters_len]; decide, fun H1 z k1 D1 z0 z1 => ?_⟩
    rw [letters_len] at z1
    have z1 : z < 26 := z1
    exact ⟨lettersS, z, _, rfl, rfl, by decide +kernel, letters_at z0 z1, q H1 _ k1 D1 (by omega) (by omega)⟩
theorem kept_none4 {d c e l : Addr} {t : Int} {H H' : Hp} (D : Drw H' d c e t) (k : Kept d e H H') (n : H' l = none) : H l = none := by
  cases h : H l with
  | none => rfl
  | some o =>
    have b := D.fresh n
    rw [k l o h (fun z => b (.inl z)) (fun z => b (.inr (.inr z)))] at n
    cases n
def sp_names4 : Sp := fun vs H Q _ => ∃ (d c e : Addr) (t : Int) (m : Nat), vs = [.ref d, .int (m : Int)] ∧ Drw H d c e t ∧ t ≤ 900000 ∧ m ≤ 26 ∧ ∀ H' a (xs : List Str) t', Kept d e H H' → Drw H' d c e t' → t' ≤ t + 12 → H a = none → H' a = some (.lst (xs.map V.str)) → xs.length = m → sortedS xs = true → xs.Nodup → (∀ x ∈ xs, NameOk x) → Q (.ref a) H'
theorem ok__law_names (T : Top K mg) : Ok P w K mg base 3 "_law_names" ["_law_drawn_here", "_law_many"] sp_names4 := by
  have O__law_next := ok__law_next (P := P) (w := w) (base := base) T
  have O__law_one := ok__law_oneX (P := P) (w := w) (base := base) T
  refine T.d__law_names.ok sc__law_names (fun vs H Q E h => ?_) (fun f cdv A outer s H vs Q E hr h => ?_)
  · obtain ⟨d, c, e, t, m, rfl, _⟩ := h
    rfl
  · obtain ⟨d, c, e, t, m, rfl, D0, ht, hm, q⟩ := h
    refine ⟨_, ((pss_cons (ps_set (i := 2) sc__law_names.nd rfl (.inr rfl) pe_str)
      (pss_cons (ps_set (i := 4) sc__law_names.nd rfl (.inr rfl) (pe_join pe_str (pe_lc (own := [("_law_k", 3)]) (g := gName 3) (by rfl) sc__law_names.nd (pi_range1 (by rfl) T.b_range (pa_cons (pe_callO O__law_next (hr.mono (by omega)) (by rfl) (pa_cons (pv 0) (pa_cons pe_int pa_nil))) pa_nil)) (blkOk_by (own := [("_law_k", 3)]) (N := N__law_names) (sc := defScope s__law_names) (by decide +kernel)) (fun _ _ _ _ _ => (pg_name (i := 3) sc__law_names.nd rfl (.inl rfl))) (fun _ _ _ _ _ => pts_nil) (fun _ _ _ _ _ => (pe_callO O__law_one (hr.mono (by omega)) (by rfl) (pa_cons (pv 0) (pa_cons (pv 2) pa_nil)))))))
      (pss_cons (ps_asg (pe_tup (pa_cons (pe_callO O__law_next (hr.mono (by omega)) (by rfl) (pa_cons (pv 0) (pa_cons (pe_op op_add (pe_callB call_len_str (by rfl) T.b_len (by decide +kernel) (pa_cons (pv 4) pa_nil)) pe_int) pa_nil))) (pa_cons (pe_callO O__law_next (hr.mono (by omega)) (by rfl) (pa_cons (pv 0) (pa_cons pe_int pa_nil))) pa_nil))) (pg_tup (by rfl) (pgs_cons (pg_name (i := 5) sc__law_names.nd rfl (.inr rfl)) (pgs_cons (pg_name (i := 6) sc__law_names.nd rfl (.inr rfl)) pgs_nil))))
      (pss_one (ps_ret (pe_callB cr_sortedS (by rfl) T.b_sorted (by decide +kernel) (pa_cons (pe_lc (own := [("_law_k", 3)]) (g := gName 3) (by rfl) sc__law_names.nd (pi_range1 (by rfl) T.b_range (pa_cons (pv 1) pa_nil)) (blkOk_by (own := [("_law_k", 3)]) (N := N__law_names) (sc := defScope s__law_names) (by decide +kernel)) (fun _ _ _ _ _ => (pg_name (i := 3) sc__law_names.nd rfl (.inl rfl))) (fun _ _ _ _ _ => pts_nil) (fun _ _ _ _ _ => (pe_op op_add_str (pe_op op_add_str (pe_slice C8.sl_txt (pv 4) po_none (po_some (pv 5))) (pe_ix ix_str (pv 2) (pe_op op_mod (pe_op op_add (pv 6) (pe_op op_mul pe_int (pv 3))) pe_int) (fun _ _ => rfl))) (pe_slice C8.sl_txt (pv 4) (po_some (pv 5)) po_none)))) pa_nil)))))))), ?_⟩
    refine ⟨⟨_, rfl⟩, .ref d, rfl, d, c, e, t, 8, rfl, D0, by omega, by decide, by decide, fun H2 lg k2 D2 a0 a1 => ⟨lg, rfl, by omega, by omega, fun D nD => ?_⟩⟩
    have bD := D2.fresh nD
    refine lc_range (lo := 0) (n := lg.toNat) (fun k H' => Kept d e H2 H' ∧ ∃ (t' : Int) (cs : List Nat), Drw H' d c e t' ∧ t' ≤ t + 1 + k ∧ H' D = some (.lst ((cs.map fun c => SX.S [c]).map V.str)) ∧ cs.length = k ∧ ∀ x ∈ cs, 97 ≤ x ∧ x ≤ 122) ⟨Kept.of (same_upd nD), t + 1, [], D2.same (same_upd nD), by omega, upd_same, rfl, fun x hx => (nomatch hx)⟩ (fun k H' hk hW => ?_) (fun H3 hW => ?_)
    · obtain ⟨k', t', cs, D', ht', eB, ln, ro⟩ := hW
      refine ⟨rfl, .ref d, rfl, .str lettersS, rfl, d, c, e, t', rfl, D', by omega, fun H3 x k3 D3 x0 x1 => ?_⟩
      refine ⟨_, Drw.lst (c := c) k3 bD eB, by rw [List.length_map, List.length_map]; exact small1000 (by omega), (k'.trans k3).mut nD, t' + 1, cs ++ [x], D3.mut bD, by omega, ?_, by rw [List.length_append, ln]; rfl, fun y hy => ?_⟩
      · rw [upd_same, List.map_append, List.map_append]
        rfl
      · rcases List.mem_append.mp hy with h | h
        · exact ro y h
        · rw [List.mem_singleton.mp h]
          exact ⟨x0, x1⟩
    obtain ⟨k3, t3, cs, D3, ht3, eB, ln, ro⟩ := hW
    refine ⟨_, D, _, rfl, rfl, .inl (.inl (.inl eB)), ?_, ?_⟩
    · rw [ones_sum, List.length_map, ln, show (Str.ofString "").length = 0 from rfl]
      omega
    rw [join_cs]
    have lcs : (SX.S cs).length = cs.length := SX.S_len cs
    have sz : (SX.S cs).length ≤ sizeLine := by rw [lcs]; exact Nat.le_of_lt (small1000 (by omega))
    refine ⟨.ref d, rfl, .str (SX.S cs), rfl, _, rfl, sz, _, 1, rfl, rfl, d, c, e, t3, _, rfl, D3, by omega, by rw [lcs]; omega, by rw [lcs]; omega, fun H4 cut k4 D4 c0 c1 => ?_⟩
    refine ⟨.ref d, rfl, d, c, e, t3 + 1, 26, rfl, D4, by omega, by decide, by decide, fun H5 fi k5 D5 f0 f1 => ?_⟩
    refine ⟨sz1000 (by decide : (2 : Nat) ≤ 1000), fun T0 nT => ?_⟩
    generalize h6 : upd H5 T0 _ = H6
    obtain ⟨s6, e6⟩ := new_of h6 nT
    refine ⟨T0, _, rfl, .inl (.inl e6), rfl, _, _, rfl, _, _, rfl, rfl, ?_⟩
    have D6 := D5.same s6
    have k06 : Kept d e H H6 := k2.trans (k3.trans (k4.trans (k5.trans (Kept.of s6))))
    refine ⟨.int m, rfl, m, rfl, by omega, by omega, fun L nL => ?_⟩
    refine lc_range (lo := 0) (n := (m : Int).toNat) (fun k H' => Same H6 H' ∧ H' L = some (.lst (((List.range k).map (nameAt cs cut fi 5)).map V.str))) ⟨same_upd nL, upd_same⟩ (fun k H' hk hW => ?_) (fun H' hW => ?_)
    · obtain ⟨s8, e8⟩ := hW
      have r0 := Int.emod_nonneg (fi + 5 * k) (b := 26) (by decide)
      have r1 := Int.emod_lt_of_pos (fi + 5 * k) (b := 26) (by decide)
      refine ⟨rfl, .str (SX.S cs), rfl, .int cut, rfl, cut, rfl, _, rfl, sz, .str lettersS, rfl, .int fi, rfl, .int (0 + k), rfl, ?_⟩
      have l1 : (SX.S (cs.take cut.toNat)).length ≤ 7 := by
        rw [SX.S_len, List.length_take]
        omega
      have l2 : (SX.S (cs.drop cut.toNat)).length ≤ 7 := by
        rw [SX.S_len, List.length_drop]
        omega
      rw [show (0 : Int) + (k : Int) = (k : Int) by omega]
      refine ⟨5, k, rfl, rfl, .inl ⟨by decide, by decide⟩, fi, _, rfl, rfl, _, 26, rfl, rfl, show (0 : Int) < 26 by decide, lettersS, _, _, rfl, rfl, by decide +kernel, letters_at r0 r1, ?_⟩
      rw [SX.slice_to c0]
      refine ⟨_, _, rfl, rfl, ?_, .str (SX.S cs), rfl, .int cut, rfl, cut, rfl, _, rfl, sz, ?_⟩
      · exact Nat.le_of_lt (small1000 (by rw [show (Str.length ⟨#[97 + ((fi + 5 * k) % 26).toNat]⟩) = 1 from rfl]; omega))
      rw [SX.slice_from c0]
      refine ⟨_, _, rfl, rfl, ?_, _, e8, by rw [List.length_map, List.length_map, List.length_range]; exact small1000 (by omega), same_mut s8 nL, ?_⟩
      · refine Nat.le_of_lt (small1000 ?_)
        rw [show (Str.mk #[97 + ((fi + 5 * k) % 26).toNat]) = SX.S [97 + ((fi + 5 * k) % 26).toNat] from rfl, SX.S_cat, SX.S_len, List.length_append]
        rw [SX.S_len] at l1
        simp only [List.length_cons, List.length_nil]
        omega
      · rw [upd_same, List.range_succ, List.map_append, List.map_append]
        rw [show (Str.mk #[97 + ((fi + 5 * k) % 26).toNat]) = SX.S [97 + ((fi + 5 * k) % 26).toNat] from rfl, SX.S_cat, SX.S_cat, List.append_assoc]
        rfl
    · obtain ⟨s8, e8⟩ := hW
      refine ⟨L, _, rfl, .inl (.inl e8), by rw [List.length_map, List.length_range]; omega, fun ys p pm so np => ?_⟩
      have s9 := same_upd (o := .lst (ys.map V.str)) np
      refine q _ p ys _ ((k06.trans (Kept.of s8)).trans (Kept.of s9)) ((D6.same s8).same s9) (by omega) (kept_none4 (D6.same s8) (k06.trans (Kept.of s8)) np) upd_same ?_ so (pm.nodup_iff.mpr (names_nodup (by omega) (by omega))) (fun x hx => ?_)
      · rw [pm.length_eq, List.length_map, List.length_range]
        omega
      · obtain ⟨i, _, rfl⟩ := List.mem_map.mp (pm.mem_iff.mp hx)
        exact nameAt_ok ro (by omega)

end
end OC

set_option Elab.async false
set_option linter.all false
set_option maxRecDepth 100000
set_option maxHeartbeats 4000000
namespace OC
open PySem PySem.Spec PyProof.Rows L2
section
variable {P : Program} {w : World} {K : PySem.W.Frag} {mg : Str → Option Value} {base : Heap}
def sp_spoil (K : PySem.W.Frag) (m : Nat) : Sp := fun vs H Q _ => ∃ (d c e : Addr) (t : Int) (v : V) (x : PyData) (g B : Nat) (bad : Addr → Prop), vs = [.ref d, v] ∧ Drw H d c e t ∧ t + 2 * m ≤ 990000 ∧ (∀ a, Bd3 d c e a → bad a) ∧ (∀ a, bad a → H a ≠ none) ∧ Rep K H bad v x ∧ Thg g B m x ∧ 10 ^ 29 ≤ g ∧ B ≤ 1000000 ∧ m ≤ 20 ∧
  ∀ (H' : Hp) (v' : V) (x' : PyData) (t' : Int), Kept d e H H' → Drw H' d c e t' → t' ≤ t + 2 * m + 2 → Rep K H' bad v' x' → Thg (g + 1) (2 * B + 100) (m + 1) x' → Q v' H'
def spR (K : PySem.W.Frag) : Nat → Sp
  | 0 => fun _ _ _ _ => False
  | m + 1 => sp_spoil K m
theorem spoil_step (T : Top K mg) (m : Nat) (O__law_spoilt : Ok P w K mg base (m + 2) "_law_spoilt" ["_law_drawn_here", "_law_thing"] (spR K m)) : Ok P w K mg base (m + 3) "_law_spoilt" ["_law_drawn_here", "_law_thing"] (sp_spoil K m) := by
  have O__law_next := ok__law_next (P := P) (w := w) (base := base) T
  have O__law_one := ok__law_one (P := P) (w := w) (base := base) T
  refine T.d__law_spoilt.ok (k := m + 2) sc__law_spoilt (fun vs H Q E h => ?_) (fun f cdv A outer s H vs Q E hr h => ?_)
  · obtain ⟨d, c, e, t, v, x, g, B, bad, rfl, _⟩ := h
    rfl
  · obtain ⟨d, c, e, t, v, x, g, B, bad, rfl, D0, ht, bb, bn, rv, th, hg, hB, hm, q⟩ := h
    refine ⟨_, ((C8.pss_cut (ps_if (PW.pt (pw_and (pt_val (pe_callB call_isi (by rfl) T.b_isinstance (by decide +kernel) (pa_cons (pv 1) (pa_cons (pe_bltn (v := .ty "tuple") (u := .type "tuple") (by rfl) T.b_tuple (by decide +kernel) rfl) pa_nil)))) (pw_and (pt_cmpR (op_neT0 (units1 hr)) (pv 1) (pe_tup pa_nil) (nomark _)) (pw_and1 (pt_cmpR op_gt (pe_callO O__law_next (hr.mono (by omega)) (by rfl) (pa_cons (pv 0) (pa_cons pe_int pa_nil))) pe_int (nomark _))))))
        (pss_cons (ps_set (i := 2) sc__law_spoilt.nd rfl (.inl rfl) (pe_callO O__law_next (hr.mono (by omega)) (by rfl) (pa_cons (pv 0) (pa_cons (pe_callB call_len_seq (by rfl) T.b_len (by decide +kernel) (pa_cons (pv 1) pa_nil)) pa_nil))))
        (pss_one (ps_ret (pe_op op_catB (pe_op op_catB (pe_slice sl_tupB (pv 1) po_none (po_some (pv 2))) (pe_tup (pa_cons (pe_callO O__law_spoilt (hr.mono (by omega)) (by rfl) (pa_cons (pv 0) (pa_cons (pe_ix ix_tup (pv 1) (pv 2) (fun _ _ => rfl)) pa_nil))) pa_nil))) (pe_slice sl_tupB (pv 1) (po_some (pe_op op_add (pv 2) pe_int)) po_none)))))
        pss_nil)
      (pss_cons (ps_set (i := 3) sc__law_spoilt.nd rfl (.inl rfl) (pe_lst (pa_cons pe_non (pa_cons pe_bl (pa_cons pe_int (pa_cons (pe_un un_neg pe_int) (pa_cons pe_int (pa_cons pe_str (pa_cons pe_str (pa_cons pe_str (pa_cons pe_str (pa_cons (pe_tup pa_nil) (pa_cons (pe_lst pa_nil) (pa_cons pe_dnewK (pa_cons (pe_tup (pa_cons (pv 1) pa_nil)) (pa_cons (pe_tup (pa_cons (pv 1) (pa_cons (pv 1) pa_nil))) (pa_cons (pe_op op_pow pe_int pe_int) pa_nil)))))))))))))))))
      (C8.pss_cut (ps_if (pt_val (pe_callB call_isi (by rfl) T.b_isinstance (by decide +kernel) (pa_cons (pv 1) (pa_cons (pe_bltn (v := .ty "tuple") (u := .type "tuple") (by rfl) T.b_tuple (by decide +kernel) rfl) pa_nil))))
        (pss_one (ps_set (i := 3) sc__law_spoilt.nd rfl (.inl rfl) (pe_op op_cat (pv 3) (pe_lst (pa_cons (pe_slice (SlR.or sl_tupB sl_str) (pv 1) (po_some pe_int) po_none) (pa_cons (pe_op op_catB (pv 1) (pe_slice (SlR.or sl_tupB sl_str) (pv 1) po_none (po_some pe_int))) (pa_cons (pe_revT (pv 1)) (pa_cons (pe_callTy call_list_of (by rfl) T.b_list (by decide +kernel) (pa_cons (pv 1) pa_nil)) pa_nil))))))))
        (pss_one (ps_if (pt_val (pe_callB call_isi (by rfl) T.b_isinstance (by decide +kernel) (pa_cons (pv 1) (pa_cons (pe_bltn (v := .ty "str") (u := .type "str") (by rfl) T.b_str (by decide +kernel) rfl) pa_nil))))
          (pss_one (ps_set (i := 3) sc__law_spoilt.nd rfl (.inl rfl) (pe_op op_cat (pv 3) (pe_lst (pa_cons (pe_op op_add_str (pv 1) pe_str) (pa_cons (pe_slice (SlR.or sl_tupB sl_str) (pv 1) (po_some pe_int) po_none) (pa_cons (pe_op op_add_str (pv 1) pe_str) (pa_cons (pe_op op_add_str (pv 1) pe_str) pa_nil))))))))
          (pss_one (ps_if (pt_val (pe_callB call_isi (by rfl) T.b_isinstance (by decide +kernel) (pa_cons (pv 1) (pa_cons (pe_bltn (v := .ty "int") (u := .type "int") (by rfl) T.b_int (by decide +kernel) rfl) pa_nil))))
            (pss_one (ps_set (i := 3) sc__law_spoilt.nd rfl (.inl rfl) (pe_op op_cat (pv 3) (pe_lst (pa_cons (pe_op (OpR.or op_add op_add_bi) (pv 1) pe_int) (pa_cons (pe_op (OpR.or op_sub op_sub_bi) (pv 1) pe_int) (pa_cons (pe_cmpR (OpR.or op_eq op_eq_bi) (pv 1) pe_int (nomark _)) pa_nil)))))))
            pss_nil)))))
      (pss_one (ps_ret (pe_callO O__law_one (hr.mono (by omega)) (by rfl) (pa_cons (pv 0) (pa_cons (pv 3) pa_nil))))))))), ?_⟩
    have bd : bad d := bb _ (.inl rfl)
    have be : bad e := bb _ (.inr (.inr rfl))
    have sz : ∀ n : Nat, n ≤ 1000 → n ≤ sizeLine := fun n h => sz1000 h
    refine ⟨fun σ' H' => ∃ t1 : Int, Kept d e H H' ∧ Drw H' d c e t1 ∧ t1 ≤ t + 1 ∧ Rep K H' bad v x ∧ σ' = [some (.ref d), some v, none, none], ?_, ?_⟩
    · by_cases hk : kdOf x = .tup
      · obtain ⟨ds, rfl⟩ := kd_tup_inv hk
        obtain ⟨a, xs, rfl, hA, ra⟩ := rep_tup rv
        obtain ⟨nds, wds, m', rfl, dds⟩ := th.tup
        have lx := repAll_len ra
        have lw := wtAll_len ds
        refine ⟨.ref a, rfl, .ref a, .ty "tuple", _, _, _, rfl, .ty "tuple", kd_tup hA, kit_tuple _, _, rfl, iteT ?_⟩
        refine ⟨.ref a, rfl, sz 0 (by decide), fun t0 n0 => ?_⟩
        generalize h0 : upd H t0 _ = H0
        obtain ⟨s0, e0⟩ := new_of h0 n0
        have hA0 := Same.tup s0 hA
        refine ⟨a, t0, xs, rfl, rfl, hA0, .inl (.inl e0), _, rfl, ?_⟩
        rcases Nat.eq_zero_or_pos xs.length with hx | hx
        · rw [List.isEmpty_iff.mpr (List.eq_nil_of_length_eq_zero hx)]
          exact iteF ⟨t, Kept.of s0, D0.same s0, by omega, rep_stays (Stays.of s0) _ _ rv, rfl⟩
        · have em : xs.isEmpty = false := by
            cases xs with
            | nil => simp at hx
            | cons _ _ => rfl
          rw [em]
          refine iteT ⟨.ref d, rfl, d, c, e, t, 5, rfl, D0.same s0, by omega, by decide, by decide, fun H1 r1 k1 D1 r0 r5 => ?_⟩
          have hA1 := (D0.same s0).tup k1 hA0
          have k01 : Kept d e H H1 := (Kept.of s0).trans k1
          have rv1 : RepAll K H1 bad xs ds := repAll_stays (Stays.drw (D0.same s0) k1 bd be) _ _ (repAll_stays (Stays.of s0) _ _ ra)
          refine ⟨r1, 0, rfl, rfl, _, rfl, ite2 (fun e3 => ?_) (fun _ => ⟨t + 1, k01, D1, by omega, .tup hA1 rv1, rfl⟩)⟩
          refine ⟨.ref d, rfl, .ref a, rfl, a, _, rfl, .inr hA1, d, c, e, t + 1, _, rfl, D1, by omega, by omega, by omega, fun H2 i k2 D2 i0 i1 => ?_⟩
          have hA2 := D1.tup k2 hA1
          have rv2 := repAll_stays (Stays.drw D1 k2 bd be) _ _ rv1
          have k02 := k01.trans k2
          refine ⟨.ref a, rfl, .int i, rfl, i, rfl, a, _, rfl, hA2, fun b1 H3 s3 hb1 => ?_⟩
          rw [cut_to i0 (by omega)] at hb1
          have D3 := D2.same s3
          have hA3 := Same.tup s3 hA2
          have rv3 := repAll_stays (Stays.of s3) _ _ rv2
          have hi : i.toNat < xs.length := by omega
          have gx := List.getElem?_eq_getElem hi
          obtain ⟨y, gy, my, ry⟩ := repAll_get rv3 gx
          generalize xs[i.toNat] = z at gx ry
          have k03 : Kept d e H H3 := k02.trans (Kept.of s3)
          have wy := wtAll_mem my
          refine ⟨.ref d, rfl, .ref a, rfl, .int i, rfl, a, _, i, z, rfl, rfl, hA3, at_of (j := i.toNat) (by omega) gx, ?_⟩
          refine ⟨d, c, e, _, _, y, g, wt y, bad, rfl, D3, by omega, bb, fun b hb => D0.more ⟨_, D3⟩ k03 (bn b hb), ry, ⟨nds y my, Nat.le_refl _, dds y my⟩, hg, by omega, by omega, fun H4 v' x' t4 k4 D4 ht4 rx' tx' => ?_⟩
          refine ⟨sz 1 (by decide), fun u nu => ?_⟩
          generalize h5 : upd H4 u _ = H5
          obtain ⟨s5, e5⟩ := new_of h5 nu
          have tk34 : Tk H3 H4 := D3.tk k4
          refine ⟨b1, u, _, _, rfl, rfl, Same.tup s5 (tk34 _ _ _ hb1), .inl (.inl e5), ?_, fun b2 H6 s6 hb2 => ?_⟩
          · rw [List.length_take]
            exact szM (by simp only [List.length_cons, List.length_nil]; omega)
          refine ⟨.ref a, rfl, .int i, rfl, i, 1, rfl, rfl, i + 1, rfl, a, _, rfl, Same.tup (s5.trans s6) (tk34 _ _ _ hA3), fun b3 H7 s7 hb3 => ?_⟩
          rw [cut_from (by omega) (by omega)] at hb3
          refine ⟨b2, b3, _, _, rfl, rfl, Same.tup s7 hb2, hb3, ?_, fun b4 H8 s8 hb4 => ?_⟩
          · rw [List.length_append, List.length_take, List.length_drop]
            exact szM (by simp only [List.length_cons, List.length_nil]; omega)
          have s48 := ((s5.trans s6).trans s7).trans s8
          have st38 : Stays bad H3 H8 := (Stays.drw D3 k4 bd be).trans (Stays.of s48)
          have rr := repAll_append (repAll_append (repAll_take i.toNat (repAll_stays st38 _ _ rv3)) (.cons (rep_stays (Stays.of s48) _ _ rx') .nil)) (repAll_drop (i + 1).toNat (repAll_stays st38 _ _ rv3))
          have ei : (i + 1).toNat = i.toNat + 1 := by omega
          have ew := wtAll_at gy
          have wx' := tx'.w
          refine q H8 (.ref b4) (.tuple ((ds.take i.toNat ++ [x']) ++ ds.drop (i + 1).toNat)) t4 (k03.trans (k4.trans (Kept.of s48))) (D4.same s48) (by omega) (.tup hb4 rr) (thg_tuple (fun y' my' => ?_) ?_ (fun y' my' => ?_))
          · rcases List.mem_append.mp my' with h | h
            · rcases List.mem_append.mp h with h | h
              · exact nz_mono (by omega) _ (nds _ (List.mem_of_mem_take h))
              · rw [List.mem_singleton.mp h]
                exact tx'.n
            · exact nz_mono (by omega) _ (nds _ (List.mem_of_mem_drop h))
          · rw [wtAll_append, wtAll_append, ei, wtAll, wtAll]
            omega
          · rcases List.mem_append.mp my' with h | h
            · rcases List.mem_append.mp h with h | h
              · exact Nat.le_succ_of_le (dds _ (List.mem_of_mem_take h))
              · rw [List.mem_singleton.mp h]
                exact tx'.k
            · exact Nat.le_succ_of_le (dds _ (List.mem_of_mem_drop h))
      · refine ⟨v, rfl, v, .ty "tuple", _, _, _, rfl, .ty "tuple", rv.kd, kit_tuple _, _, rfl, ?_⟩
        rw [decide_eq_false hk]
        exact iteF (iteF ⟨t, Kept.of (Same.refl H), D0, by omega, rv, rfl⟩)
    rintro σ' Hs ⟨t1, k1, D1, ht1, rv1, rfl⟩
    have bn1 : ∀ a, bad a → Hs a ≠ none := fun b hb => D0.more ⟨_, D1⟩ k1 (bn b hb)
    have q1 : ∀ (H' : Hp) (v' : V) (x' : PyData) (t' : Int), Kept d e Hs H' → Drw H' d c e t' → t' ≤ t1 + 1 → Rep K H' bad v' x' → Thg (g + 1) (2 * B + 100) (m + 1) x' → Q v' H' := fun H' v' x' t' k D h rr sx => q H' v' x' t' (k1.trans k) D (by omega) rr sx
    clear q rv D0 O__law_spoilt
    refine ⟨1, rfl, sz 0 (by decide), fun t0 n0 => ?_⟩
    generalize h0 : upd Hs t0 _ = H0
    obtain ⟨s0, e0⟩ := new_of h0 n0
    refine ⟨sz 0 (by decide), fun t1' n1 => ?_⟩
    generalize h1 : upd H0 t1' _ = H1
    obtain ⟨s1, e1⟩ := new_of h1 n1
    intro t2 n2
    generalize h2 : upd H1 t2 _ = H2
    obtain ⟨s2, e2⟩ := new_of h2 n2
    refine ⟨v, rfl, sz 1 (by decide), fun t3 n3 => ?_⟩
    generalize h3 : upd H2 t3 _ = H3
    obtain ⟨s3, e3⟩ := new_of h3 n3
    refine ⟨v, rfl, v, rfl, sz 2 (by decide), fun t4 n4 => ?_⟩
    generalize h4 : upd H3 t4 _ = H4
    obtain ⟨s4, e4⟩ := new_of h4 n4
    refine ⟨10, 29, rfl, rfl, ⟨by decide, by decide, by decide⟩, sz 15 (by decide), fun L nL => ?_⟩
    generalize h5 : upd H4 L _ = H5
    obtain ⟨s5, e5⟩ := new_of h5 nL
    have a4 := s5
    have a3 := s4.trans a4
    have a2 := s3.trans a3
    have a1 := s2.trans a2
    have a0 := s1.trans a1
    have aH := s0.trans a0
    have rv5 : Rep K H5 bad v x := rep_stays (Stays.of aH) _ _ rv1
    have nbad : ∀ {a : Addr} {H' : Hp}, Same Hs H' → H' a = none → ¬ bad a := fun {a H'} s n z => bn1 a z (s.free n)
    have small : ∀ {x' : PyData}, nz (10 ^ 29) x' = true → wt x' ≤ 100 → x'.depth ≤ 1 → Thg (g + 1) (2 * B + 100) (m + 1) x' := fun n w k => ⟨nz_mono (by omega) _ n, by omega, by omega⟩
    have all : RepAll K H5 bad [.non, .bl true, .int 0, .int (-1), .int 7, .str "", .str "a", .str "zzzzzzzzz", .str "A", .ref t0, .ref t1', .ref t2, .ref t3, .ref t4, .int (10 ^ 29)] [.none, .bool true, .int 0, .int (-1), .int 7, .str "", .str "a", .str "zzzzzzzzz", .str "A", .tuple [], .list [], .dict [], .tuple [x], .tuple [x, x], .int (10 ^ 29)] :=
      .cons .non <| .cons (.bl _) <| .cons (.int _) <| .cons (.int _) <| .cons (.int _) <| .cons (.str _) <| .cons (.str _) <| .cons (.str _) <| .cons (.str _) <| .cons (.tup (.inl (.inl (a0 _ _ e0))) .nil) <| .cons (.lst (a1 _ _ e1) (nbad s0 n1) .nil) <| .cons (.dct (a2 _ _ e2) rfl) <| .cons (.tup (.inl (.inl (a3 _ _ e3))) (.cons rv5 .nil)) <| .cons (.tup (.inl (.inl (a4 _ _ e4))) (.cons rv5 (.cons rv5 .nil))) <| .cons (.int _) .nil
    have tx : nz (g + 1) x = true := nz_mono (by omega) _ th.n
    have fits : ∀ x' ∈ [PyData.none, .bool true, .int 0, .int (-1), .int 7, .str "", .str "a", .str "zzzzzzzzz", .str "A", .tuple [], .list [], .dict [], .tuple [x], .tuple [x, x], .int (10 ^ 29)], Thg (g + 1) (2 * B + 100) (m + 1) x' := fun x' hx => by
      simp only [List.mem_cons, List.not_mem_nil, or_false] at hx
      rcases hx with rfl | rfl | rfl | rfl | rfl | rfl | rfl | rfl | rfl | rfl | rfl | rfl | rfl | rfl | rfl
      · exact small (by decide +kernel) (by decide +kernel) (by decide +kernel)
      · exact small (by decide +kernel) (by decide +kernel) (by decide +kernel)
      · exact small (by decide +kernel) (by decide +kernel) (by decide +kernel)
      · exact small (by decide +kernel) (by decide +kernel) (by decide +kernel)
      · exact small (by decide +kernel) (by decide +kernel) (by decide +kernel)
      · exact small (by decide +kernel) (by decide +kernel) (by decide +kernel)
      · exact small (by decide +kernel) (by decide +kernel) (by decide +kernel)
      · exact small (by decide +kernel) (by decide +kernel) (by decide +kernel)
      · exact small (by decide +kernel) (by decide +kernel) (by decide +kernel)
      · exact small (by decide +kernel) (by decide +kernel) (by decide +kernel)
      · exact small (by decide +kernel) (by decide +kernel) (by decide +kernel)
      · exact small (by decide +kernel) (by decide +kernel) (by decide +kernel)
      · exact thg_tuple (fun y my => by rw [List.mem_singleton.mp my]; exact tx) (by have := th.w; rw [wtAll, wtAll]; omega) (fun y my => by rw [List.mem_singleton.mp my]; exact th.k)
      · exact thg_tuple (fun y my => by simp only [List.mem_cons, List.not_mem_nil, or_false, or_self] at my; rw [my]; exact tx) (by have := th.w; rw [wtAll, wtAll, wtAll]; omega) (fun y my => by simp only [List.mem_cons, List.not_mem_nil, or_false, or_self] at my; rw [my]; exact th.k)
      · exact small (by decide +kernel) (by decide +kernel) (by decide +kernel)
    have e5 : H5 L = some (.lst [.non, .bl true, .int 0, .int (-1), .int 7, .str "", .str "a", .str "zzzzzzzzz", .str "A", .ref t0, .ref t1', .ref t2, .ref t3, .ref t4, .int (10 ^ 29)]) := e5
    have lv : ([.non, .bl true, .int 0, .int (-1), .int 7, .str "", .str "a", .str "zzzzzzzzz", .str "A", .ref t0, .ref t1', .ref t2, .ref t3, .ref t4, .int (10 ^ 29)] : List V).length = 15 := rfl
    generalize ([.non, .bl true, .int 0, .int (-1), .int 7, .str "", .str "a", .str "zzzzzzzzz", .str "A", .ref t0, .ref t1', .ref t2, .ref t3, .ref t4, .int (10 ^ 29)] : List V) = vs at all e5 lv
    generalize ([PyData.none, .bool true, .int 0, .int (-1), .int 7, .str "", .str "a", .str "zzzzzzzzz", .str "A", .tuple [], .list [], .dict [], .tuple [x], .tuple [x, x], .int (10 ^ 29)]) = ds at all fits
    refine ⟨fun σ' H' => ∃ (N : Addr) (us : List V) (es : List PyData), Same Hs H' ∧ H' N = some (.lst us) ∧ ¬ Bd3 d c e N ∧ RepAll K H' bad us es ∧ (∀ x ∈ es, Thg (g + 1) (2 * B + 100) (m + 1) x) ∧ 0 < us.length ∧ us.length ≤ 100 ∧ σ' = [some (.ref d), some v, none, some (.ref N)], ?_, ?_⟩
    · have fin : ∀ {H6 H7 : Hp} {N : Addr} {fs : List V} {gs : List PyData}, Same H5 H6 → Same H6 H7 → H6 N = none → H7 N = some (.lst (vs ++ fs)) → RepAll K H7 bad fs gs → (∀ x ∈ gs, Thg (g + 1) (2 * B + 100) (m + 1) x) → fs.length ≤ 10 → ∃ (N' : Addr) (us : List V) (es : List PyData), Same Hs H7 ∧ H7 N' = some (.lst us) ∧ ¬ Bd3 d c e N' ∧ RepAll K H7 bad us es ∧ (∀ x ∈ es, Thg (g + 1) (2 * B + 100) (m + 1) x) ∧ 0 < us.length ∧ us.length ≤ 100 ∧ [some (V.ref d), some v, none, some (.ref N)] = [some (.ref d), some v, none, some (.ref N')] := fun {H6 H7 N fs gs} s6 s7 n e r f l =>
        ⟨N, vs ++ fs, ds ++ gs, (aH.trans s6).trans s7, e, (D1.same (aH.trans s6)).fresh n, repAll_append (repAll_stays (Stays.of (s6.trans s7)) _ _ all) r, fun x hx => (List.mem_append.mp hx).elim (fits x) (f x), by rw [List.length_append]; omega, by rw [List.length_append, lv]; omega, rfl⟩
      by_cases hk : kdOf x = .tup
      · obtain ⟨xd, rfl⟩ := kd_tup_inv hk
        obtain ⟨a, xs, rfl, hA5, ra⟩ := rep_tup rv5
        obtain ⟨nds, wds, m', em, dds⟩ := th.tup
        have lx := repAll_len ra
        have lw := wtAll_len xd
        refine ⟨.ref a, rfl, .ref a, .ty "tuple", _, _, _, rfl, .ty "tuple", kd_tup hA5, kit_tuple _, _, rfl, iteT ?_⟩
        refine ⟨.ref L, rfl, .ref a, rfl, 1, rfl, .inl ⟨a, _, rfl, hA5, fun b6 H6 s6 h6 => ?_⟩⟩
        have c1 : ∃ k, cutV xs (some 1) none = xs.drop k := by
          cases xs with
          | nil => exact ⟨0, by unfold cutV; simp⟩
          | cons y ys => exact ⟨1, cut_from (by decide) (by simp; omega)⟩
        obtain ⟨kc, c1⟩ := c1
        rw [c1] at h6
        have hA6 := Same.tup s6 hA5
        refine ⟨.ref a, rfl, .ref a, rfl, 1, rfl, .inl ⟨a, _, rfl, hA6, fun b7 H7 s7 h7 => ?_⟩⟩
        rw [cut_upto (by decide)] at h7
        have hA7 := Same.tup s7 hA6
        refine ⟨a, b7, _, _, rfl, rfl, hA7, h7, ?_, fun b8 H8 s8 h8 => ?_⟩
        · rw [List.length_take]
          exact szM (by omega)
        have hA8 := Same.tup s8 hA7
        refine ⟨.ref a, rfl, a, _, rfl, hA8, fun b9 n9 => ?_⟩
        generalize h9 : upd H8 b9 _ = H9
        obtain ⟨s9, e9⟩ := new_of h9 n9
        have hA9 := Same.tup s9 hA8
        refine ⟨.ref a, rfl, a, _, rfl, .inr hA9, fun b10 n10 => ?_⟩
        generalize h10 : upd H9 b10 _ = H10
        obtain ⟨s10, e10⟩ := new_of h10 n10
        refine ⟨sz 4 (by decide), fun M nM => ?_⟩
        dsimp only
        generalize h11 : upd H10 M _ = H11
        obtain ⟨s11, e11⟩ := new_of h11 nM
        have w10 := s11
        have w9 := s10.trans w10
        have w8 := s9.trans w9
        have w7 := s8.trans w8
        have w6 := s7.trans w7
        have w5 := s6.trans w6
        refine ⟨L, M, _, _, rfl, rfl, w5 _ _ e5, e11, sz1000 (by rw [lv]; simp), fun N nN => ?_⟩
        generalize h12 : upd H11 N _ = H12
        obtain ⟨s12, e12⟩ := new_of h12 nN
        have s512 := w5.trans s12
        have r12 : RepAll K H12 bad xs xd := repAll_stays (Stays.of s512) _ _ ra
        have wtk := wtAll_take xd kc
        have wt1 := wtAll_take xd 1
        refine fin (gs := [.tuple (xd.drop kc), .tuple (xd ++ xd.take (1 : Int).toNat), .tuple xd.reverse, .list xd]) w5 s12 nN e12 (.cons (.tup (Same.tup (w6.trans s12) h6) (repAll_drop _ r12)) (.cons (.tup (Same.tup (w8.trans s12) h8) (repAll_append r12 (repAll_take _ r12))) (.cons (.tup (.inl (.inl ((w9.trans s12) _ _ e9))) (repAll_rev r12)) (.cons (.lst ((w10.trans s12) _ _ e10) (nbad ((aH.trans s6).trans ((s7.trans s8).trans s9)) n10) r12) .nil)))) (fun y hy => ?_) (by simp)
        rw [em]
        simp only [List.mem_cons, List.not_mem_nil, or_false] at hy
        rcases hy with rfl | rfl | rfl | rfl
        · exact (thg_tuple (g := g + 1) (B := 2 * B + 100) (fun y my => nz_mono (by omega) _ (nds y (List.mem_of_mem_drop my))) (by omega) (fun y my => dds y (List.mem_of_mem_drop my))).mono (by omega) (Nat.le_refl _) (by omega)
        · refine (thg_tuple (g := g + 1) (B := 2 * B + 100) (fun y my => nz_mono (by omega) _ (nds y ((List.mem_append.mp my).elim id List.mem_of_mem_take))) ?_ (fun y my => dds y ((List.mem_append.mp my).elim id List.mem_of_mem_take))).mono (by omega) (Nat.le_refl _) (by omega)
          rw [wtAll_append]
          show wtAll xd + wtAll (xd.take 1) + 3 ≤ _
          omega
        · exact (thg_tuple (g := g + 1) (B := 2 * B + 100) (fun y my => nz_mono (by omega) _ (nds y (List.mem_reverse.mp my))) (by rw [wtAll_reverse]; omega) (fun y my => dds y (List.mem_reverse.mp my))).mono (by omega) (Nat.le_refl _) (by omega)
        · exact (thg_list (g := g + 1) (B := 2 * B + 100) (fun y my => nz_mono (by omega) _ (nds y my)) (by omega) dds).mono (by omega) (Nat.le_refl _) (by omega)
      refine ⟨v, rfl, v, .ty "tuple", _, _, _, rfl, .ty "tuple", rv5.kd, kit_tuple _, _, rfl, ?_⟩
      rw [decide_eq_false hk]
      refine iteF ⟨v, rfl, v, .ty "str", _, _, _, rfl, .ty "str", rv5.kd, kit_str _, _, rfl, ?_⟩
      by_cases hs : kdOf x = .str
      · rw [decide_eq_true hs]
        obtain ⟨z, rfl⟩ := kd_str_inv hs
        cases rep_str_inv rv5
        have wz : 10 * z.length + 2 ≤ B := by have := th.w; rw [wt] at this; exact this
        have nzz : (z.cps.toList.all fun c => decide (c < 1000000)) = true := by simpa only [nz] using th.n
        refine iteT ⟨.ref L, rfl, .str z, rfl, _, _, rfl, rfl, szM (by show z.length + 1 ≤ _; omega), .str z, rfl, 1, rfl, .inr ⟨z, rfl, szM (by omega), .str z, rfl, _, _, rfl, rfl, szM (by show z.length + 1 ≤ _; omega), .str z, rfl, _, _, rfl, rfl, szM (by show z.length + 1 ≤ _; omega), sz 4 (by decide), fun M nM => ?_⟩⟩
        dsimp only
        generalize h6 : upd H5 M _ = H6
        obtain ⟨s6, e6⟩ := new_of h6 nM
        refine ⟨L, M, _, _, rfl, rfl, s6 _ _ e5, e6, sz1000 (by rw [lv]; simp), fun N nN => ?_⟩
        generalize h7 : upd H6 N _ = H7
        obtain ⟨s7, e7⟩ := new_of h7 nN
        have ap : ∀ {y : Str}, y.length = 1 → (y.cps.toList.all fun c => decide (c < 1000000)) = true → Thg (g + 1) (2 * B + 100) (m + 1) (.str (z ++ y)) := fun {y} ly hy => ⟨by simp only [nz]; exact app_mem nzz hy, by rw [wt, app_length]; omega, by simp [PyData.depth]⟩
        refine fin (gs := [.str (z ++ "a"), .str (cutS z (some 1) none), .str (z ++ " "), .str (z ++ "\n")]) s6 s7 nN e7 (.cons (.str _) (.cons (.str _) (.cons (.str _) (.cons (.str _) .nil)))) (fun y hy => ?_) (by simp)
        simp only [List.mem_cons, List.not_mem_nil, or_false] at hy
        rcases hy with rfl | rfl | rfl | rfl
        · exact ap rfl (by decide +kernel)
        · exact ⟨by simp only [nz]; exact cutS_mem nzz, by have := cutS_length z (some 1) none; rw [wt]; omega, by simp [PyData.depth]⟩
        · exact ap rfl (by decide +kernel)
        · exact ap rfl (by decide +kernel)
      rw [decide_eq_false hs]
      refine iteF ⟨v, rfl, v, .ty "int", _, _, _, rfl, .ty "int", rv5.kd, kit_int _, _, rfl, ?_⟩
      by_cases hi : kdOf x = .int
      · obtain ⟨i, rfl⟩ := kd_int_inv hi
        cases rep_int_inv2 rv5
        have gi : i.natAbs ≤ g := by simpa only [nz, decide_eq_true_eq] using th.n
        refine iteT ⟨.ref L, rfl, .int i, rfl, .inl ⟨i, 1, rfl, rfl, .int i, rfl, .inl ⟨i, 1, rfl, rfl, .int i, rfl, .inl ⟨rfl, sz 3 (by decide), fun M nM => ?_⟩⟩⟩⟩
        dsimp only
        generalize h6 : upd H5 M _ = H6
        obtain ⟨s6, e6⟩ := new_of h6 nM
        refine ⟨L, M, _, _, rfl, rfl, s6 _ _ e5, e6, sz1000 (by rw [lv]; simp), fun N nN => ?_⟩
        generalize h7 : upd H6 N _ = H7
        obtain ⟨s7, e7⟩ := new_of h7 nN
        refine fin (gs := [.int (i + 1), .int (i - 1), .bool (decide (V.int i = V.int 1))]) s6 s7 nN e7 (.cons (.int _) (.cons (.int _) (.cons (.bl _) .nil))) (fun y hy => ?_) (by simp)
        simp only [List.mem_cons, List.not_mem_nil, or_false] at hy
        rcases hy with rfl | rfl | rfl
        · exact ⟨by simp only [nz]; exact decide_eq_true (by omega), by rw [wt]; omega, by simp [PyData.depth]⟩
        · exact ⟨by simp only [nz]; exact decide_eq_true (by omega), by rw [wt]; omega, by simp [PyData.depth]⟩
        · exact ⟨by simp only [nz], by rw [wt]; omega, by simp [PyData.depth]⟩
      by_cases hb : kdOf x = .bl
      · obtain ⟨b, rfl⟩ := kd_bl_inv hb
        cases rep_bl_inv rv5
        refine iteT ⟨.ref L, rfl, .bl b, rfl, .inr ⟨b, 1, rfl, rfl, .bl b, rfl, .inr ⟨b, 1, rfl, rfl, .bl b, rfl, .inr ⟨b, 1, rfl, rfl, sz 3 (by decide), fun M nM => ?_⟩⟩⟩⟩
        dsimp only
        generalize h6 : upd H5 M _ = H6
        obtain ⟨s6, e6⟩ := new_of h6 nM
        refine ⟨L, M, _, _, rfl, rfl, s6 _ _ e5, e6, sz1000 (by rw [lv]; simp), fun N nN => ?_⟩
        generalize h7 : upd H6 N _ = H7
        obtain ⟨s7, e7⟩ := new_of h7 nN
        refine fin (gs := [.int ((if b = true then (1 : Int) else 0) + 1), .int ((if b = true then (1 : Int) else 0) - 1), .bool ((if b = true then (1 : Int) else 0) == 1)]) s6 s7 nN e7 (.cons (.int _) (.cons (.int _) (.cons (.bl _) .nil))) (fun y hy => ?_) (by simp)
        simp only [List.mem_cons, List.not_mem_nil, or_false] at hy
        rcases hy with rfl | rfl | rfl
        · exact small (by cases b <;> decide +kernel) (by rw [wt]; omega) (by simp [PyData.depth])
        · exact small (by cases b <;> decide +kernel) (by rw [wt]; omega) (by simp [PyData.depth])
        · exact small (by simp only [nz]) (by rw [wt]; omega) (by simp [PyData.depth])
      rw [decide_eq_false hi, decide_eq_false hb]
      exact iteF ⟨L, vs, ds, aH, e5, (D1.same (s0.trans (s1.trans (s2.trans (s3.trans s4))))).fresh nL, all, fits, by omega, by omega, rfl⟩
    · rintro σ' H8 ⟨N, us, es, s8, e8, b8, r8, f8, l0, l1, rfl⟩
      have D8 := D1.same s8
      refine ⟨.ref d, rfl, .ref N, rfl, d, c, e, N, t1, us, rfl, D8, by omega, e8, b8, l0, by omega, fun H9 v9 k9 D9 mv => ?_⟩
      obtain ⟨j, hj, rfl⟩ := List.getElem_of_mem mv
      obtain ⟨x9, _, mx, rx⟩ := repAll_get r8 (List.getElem?_eq_getElem hj)
      exact q1 H9 _ x9 (t1 + 1) ((Kept.of s8).trans k9) D9 (by omega) (rep_stays (Stays.drw D8 k9 bd be) _ _ rx) (f8 x9 mx)
theorem spoil_ok (T : Top K mg) : ∀ m : Nat, Ok P w K mg base (m + 3) "_law_spoilt" ["_law_drawn_here", "_law_thing"] (sp_spoil K m)
  | 0 => spoil_step T 0 ((T.d__law_spoilt.ok (k := 0) sc__law_spoilt (fun vs H Q E h => h.elim) fun f cdv A outer s H vs Q E hr h => h.elim).mono (by decide))
  | m + 1 => spoil_step T (m + 1) (spoil_ok T m)

end
end OC

set_option Elab.async false
set_option linter.all false
set_option maxRecDepth 100000
set_option maxHeartbeats 4000000
namespace OC
open PySem PySem.Spec PyProof.Rows L2
section
variable {P : Program} {w : World} {K : PySem.W.Frag} {mg : Str → Option Value} {base : Heap}
def sp_rising (K : PySem.W.Frag) : Sp := fun vs H Q _ => ∃ (a : Addr) (xs : List V) (ds : List PyData), vs = [.ref a] ∧ SqT K H a xs ∧ DpAll K H xs ds ∧ W.AllAlike ds ∧ (∀ d ∈ ds, d ≠ .none ∧ d.depth ≤ 60) ∧ xs.length ≤ 1000 ∧ ∀ H', Same H H' → Q (.bl (risD ds)) H'
theorem ok_is_rising (T : Top K mg) : Ok P w K mg base 1 "is_rising" ["things"] (sp_rising K) := by
  refine T.d_is_rising.ok sc_is_rising (fun vs H Q E h => ?_) (fun f cdv A outer s H vs Q E hr h => ?_)
  · obtain ⟨a, xs, ds, rfl, _⟩ := h
    rfl
  · obtain ⟨a, xs, ds, rfl, hA, hx, al, ne, l1, q⟩ := h
    refine ⟨_, ((pss_one (ps_ret (pe_callB (cr_all (by rfl)) (by rfl) T.b_all (by decide +kernel) (pa_cons (pe_lc (own := [("one", 1), ("other", 2)]) (g := gTup K 2 (gCons (gName 1) (gCons (gName 2) gNil))) (by rfl) sc_is_rising.nd (pi_zipB (by rfl) T.b_zip (pa_cons (pv 0) (pa_cons (pe_slice sl_tupB (pv 0) (po_some pe_int) po_none) pa_nil))) (blkOk_by (own := [("one", 1), ("other", 2)]) (N := N_is_rising) (sc := defScope s_is_rising) (by decide +kernel)) (fun _ _ _ _ _ => (pg_tup (by rfl) (pgs_cons (pg_name (i := 1) sc_is_rising.nd rfl (.inl rfl)) (pgs_cons (pg_name (i := 2) sc_is_rising.nd rfl (.inl rfl)) pgs_nil)))) (fun _ _ _ _ _ => pts_nil) (fun _ _ _ _ _ => (pe_cmpR (show OpR _ (compareOp .Lt) (rLtD K) from op_ltD hr.units) (pv 1) (pv 2) (nomark _)))) pa_nil))))), ?_⟩
    have lx := dpAll_len hx
    refine ⟨.ref a, rfl, .ref a, rfl, 1, rfl, a, _, rfl, hA, fun b1 H1 s1 hb1 => ?_⟩
    rw [cut1] at hb1
    have hA1 := Same.tup s1 hA
    refine ⟨a, b1, _, _, rfl, hb1, .inl ⟨hA1, fun D nD => ?_⟩⟩
    refine lc_it (walk_zipT (K := K) (a := a) (b := b1) (xs := xs) (ys := xs.drop 1) rfl) (fun k H' => Same H1 H' ∧ H' D = some (.lst (((List.zipWith W.dataLt ds (ds.drop 1)).take k).map V.bl))) ⟨same_upd nD, upd_same⟩ (fun k H' _ hP => ⟨Same.tup hP.1 hA1, Same.tup hP.1 hb1⟩) (fun k x H2 H3 hk hP hY => ?_) (fun H' hP => ?_)
    · obtain ⟨Ta, x1, y1, rfl, nT, rfl, e1, e2⟩ := hY
      obtain ⟨sm, eD⟩ := hP
      have sT : Same H2 (upd H2 Ta (.tup [x1, y1])) := same_upd nT
      have e1 : xs[k]? = some x1 := e1
      have e2 : (xs.drop 1)[k]? = some y1 := e2
      rw [List.getElem?_drop] at e2
      obtain ⟨d1, g1, m1, p1⟩ := dpAll_get hx e1
      obtain ⟨d2, g2, m2, p2⟩ := dpAll_get hx e2
      have sa := (s1.trans sm).trans sT
      refine ⟨Ta, [x1, y1], rfl, .inl (.inl upd_same), rfl, x1, [y1], rfl, y1, [], rfl, rfl, rfl, ?_⟩
      refine ⟨x1, rfl, y1, rfl, d1, d2, dp_same sa _ _ p1, dp_same sa _ _ p2, al _ m1 _ m2, (ne _ m1).1, (ne _ m1).2, ?_⟩
      refine ⟨_, sT _ _ eD, ?_, same_mut (sm.trans sT) nD, ?_⟩
      · rw [List.length_map, List.length_take, List.length_zipWith]
        exact small1000 (by omega)
      · have gd : (ds.drop 1)[k]? = some d2 := by rw [List.getElem?_drop]; exact g2
        rw [upd_same, List.take_add_one, List.getElem?_zipWith, g1, gd, List.map_append]
        rfl
    · obtain ⟨sm, eD⟩ := hP
      rw [List.take_of_length_le (by rw [List.length_zipWith, List.length_drop, List.length_drop]; omega)] at eD
      exact ⟨D, _, rfl, .inl (.inl eD), q H' (s1.trans sm)⟩

def sp_is_part (K : PySem.W.Frag) : Sp := fun vs H Q _ => ∃ (g : Addr) (v : V) (grp : List Str) (x : PyData) (bad : Addr → Prop), vs = [.ref g, v] ∧ SqT K H g (grp.map V.str) ∧ Rep K H bad v x ∧ (itemsD x).length ≤ 1000 ∧ ∀ H', Same H H' → Q (.bl (partB grp x)) H'
theorem ok_is_part (T : Top K mg) : Ok P w K mg base 2 "is_part" ["group", "thing"] (sp_is_part K) := by
  have O_is_rising := ok_is_rising (P := P) (w := w) (base := base) T
  refine T.d_is_part.ok sc_is_part (fun vs H Q E h => ?_) (fun f cdv A outer s H vs Q E hr h => ?_)
  · obtain ⟨g, v, grp, x, bad, rfl, _⟩ := h
    rfl
  · obtain ⟨g, v, grp, x, bad, rfl, hG, rv, l1, q⟩ := h
    refine ⟨_, ((pss_cons (ps_if (PW.pt (pw_or (pt_not (pt_val (pe_callB call_isi (by rfl) T.b_isinstance (by decide +kernel) (pa_cons (pv 1) (pa_cons (pe_bltn (v := .ty "tuple") (u := .type "tuple") (by rfl) T.b_tuple (by decide +kernel) rfl) pa_nil))))) (pw_or1 (pt_cmpR op_eq (pe_callB call_len_seq (by rfl) T.b_len (by decide +kernel) (pa_cons (pv 1) pa_nil)) pe_int (nomark _)))))
        (pss_one (ps_ret pe_bl))
        pss_nil)
      (pss_one (ps_ret (pe_and (pe_callB (cr_all (by rfl)) (by rfl) T.b_all (by decide +kernel) (pa_cons (pe_lc (own := [("name", 2)]) (g := gName 2) (by rfl) sc_is_part.nd (pi_tup (pv 1)) (blkOk_by (own := [("name", 2)]) (N := N_is_part) (sc := defScope s_is_part) (by decide +kernel)) (fun _ _ _ _ _ => (pg_name (i := 2) sc_is_part.nd rfl (.inl rfl))) (fun _ _ _ _ _ => pts_nil) (fun _ _ _ _ _ => (pe_cmpR (show OpR _ (compareOp .In) (rInSt K) from op_inSt (units1 hr)) (pv 2) (pv 0) (by rfl)))) pa_nil)) (pe_one (pe_callO O_is_rising (hr.mono (by omega)) (by rfl) (pa_cons (pv 1) pa_nil)))))))), ?_⟩
    refine ⟨v, rfl, v, .ty "tuple", _, _, _, rfl, .ty "tuple", rv.kd, kit_tuple _, _, rfl, ?_⟩
    by_cases hk : kdOf x = .tup
    · obtain ⟨ds, rfl⟩ := kd_tup_inv hk
      obtain ⟨a, xs, rfl, hA, hx⟩ := rep_tup rv
      have lx := repAll_len hx
      have l1 : ds.length ≤ 1000 := l1
      rw [decide_eq_true hk]
      refine iteF ⟨.ref a, rfl, a, _, rfl, .inr hA, rfl, _, rfl, ?_⟩
      rcases Nat.eq_zero_or_pos ds.length with h0 | h0
      · have e0 : ds = [] := List.eq_nil_of_length_eq_zero h0
        subst e0
        rw [show decide (V.int (xs.length : Int) = V.int 0) = true by rw [lx]; rfl]
        exact iteT (q H (Same.refl H))
      · rw [show decide (V.int (xs.length : Int) = V.int 0) = false by rw [lx]; exact decide_eq_false fun z => by injection z; omega]
        refine iteF ⟨.ref a, rfl, a, rfl, ⟨_, hA⟩, fun D nD => ?_⟩
        refine lc_it (walk_tup (K := K) (a := a) (xs := xs)) (fun k H' => Same H H' ∧ H' D = some (.lst (((ds.map (inG grp)).take k).map V.bl))) ⟨same_mut (Same.refl H) nD, upd_same⟩ (fun k H' _ hP => Same.tup hP.1 hA) (fun k x H1 H2 hk hP hY => ?_) (fun H' hP => ?_)
        · obtain ⟨rfl, e1⟩ := hY
          obtain ⟨sm, eD⟩ := hP
          obtain ⟨e, g', _, rx⟩ := repAll_get hx e1
          have rx := rep_stays (Stays.of sm) _ _ rx
          refine ⟨rfl, x, rfl, .ref g, rfl, g, grp, rfl, Same.tup sm hG, rx.any, ?_⟩
          rw [any_inG rx grp]
          refine ⟨_, eD, ?_, same_mut sm nD, ?_⟩
          · rw [List.length_map, List.length_take, List.length_map]
            exact small1000 (by omega)
          · rw [upd_same, List.take_add_one, List.getElem?_map, g', List.map_append]
            rfl
        · obtain ⟨sm, eD⟩ := hP
          rw [List.take_of_length_le (by rw [List.length_map]; omega)] at eD
          refine ⟨D, ds.map (inG grp), rfl, .inl (.inl eD), ?_⟩
          have ea : (ds.map (inG grp)).all id = ds.all (inG grp) := by
            rw [List.all_map]
            rfl
          rw [ea]
          have em : ds.isEmpty = false := by cases ds with | nil => simp at h0 | cons _ _ => rfl
          simp only [partB, em, Bool.not_false, Bool.true_and] at q
          cases hall : ds.all (inG grp) with
          | false =>
            simp only [hall, Bool.false_and] at q
            exact ⟨false, rfl, iteF (q H' sm)⟩
          | true =>
            simp only [hall, Bool.true_and] at q
            have hst : ds.all isStD = true := List.all_eq_true.mpr fun d hd => (inG_st (List.all_eq_true.mp hall d hd)).1
            have ed := strs_of hst
            have hx' := hx
            rw [ed] at hx'
            have ex := rep_strsV hx'
            refine ⟨true, rfl, iteT ⟨.ref a, rfl, a, xs, ds, rfl, Same.tup sm hA, ?_, fun d hd e he => alike_str d e (List.all_eq_true.mp hst d hd) (List.all_eq_true.mp hst e he), fun d hd => ?_, by omega, fun H2 s2 => q H2 (sm.trans s2)⟩⟩
            · rw [ex, ed, ← ed]
              conv => rhs; rw [ed]
              exact dpAll_strs _
            · have := List.all_eq_true.mp hst d hd
              cases d with
              | str z => exact ⟨fun z => (nomatch z), by simp [PyData.depth]⟩
              | _ => exact absurd this Bool.false_ne_true
    · rw [decide_eq_false hk]
      refine iteT ?_
      have : partB grp x = false := by
        cases x with
        | tuple ds => exact absurd rfl hk
        | _ => rfl
      rw [this] at q
      exact q H (Same.refl H)

end
end OC

set_option Elab.async false
set_option linter.all false
set_option maxRecDepth 100000
set_option maxHeartbeats 4000000
namespace OC
open PySem PySem.Spec PyProof.Rows L2
section
variable {P : Program} {w : World} {K : PySem.W.Frag} {mg : Str → Option Value} {base : Heap}
def sp_names_in (K : PySem.W.Frag) : Sp := fun vs H Q _ => ∃ (v : V) (P : List (List Str)), vs = [v] ∧ Dp K H v (ptD P) ∧ P.length ≤ 1000 ∧ P.flatten.length ≤ 1000 ∧ ∀ H' l, Same H H' → H' l = some (.lst (P.flatten.map V.str)) → Q (.ref l) H'
theorem ok_names_in (T : Top K mg) : Ok P w K mg base 1 "names_in" ["parting"] (sp_names_in K) := by
  refine T.d_names_in.ok sc_names_in (fun vs H Q E h => ?_) (fun f cdv A outer s H vs Q E hr h => ?_)
  · obtain ⟨v, P, rfl, _⟩ := h
    rfl
  · obtain ⟨v, P, rfl, dp, lP, lF, q⟩ := h
    obtain ⟨a, us, rfl, hA, dU⟩ := dp_pt dp
    have lu := dpAll_len dU
    rw [List.length_map] at lu
    refine ⟨_, ((pss_one (ps_ret (pe_lc2 (own := [("part", 1), ("name", 2)]) (vs1 := [2]) (g := gName 1) (g1 := gName 2) (by rfl) sc_names_in.nd (pi_tup (pv 0)) (blkOk_by (own := [("part", 1), ("name", 2)]) (N := N_names_in) (sc := defScope s_names_in) (by decide +kernel)) (by decide) (fun _ _ _ _ _ => (pg_name (i := 1) sc_names_in.nd rfl (.inl rfl))) (fun _ _ _ _ _ => pts_nil) (fun _ _ _ _ _ => (show PI _ _ _ (iTup K _) from pi_tup (pv 1))) (fun _ _ _ _ _ => (pg_name (i := 2) sc_names_in.nd rfl (.inl rfl))) (fun _ _ _ _ _ => pts_nil) (fun _ _ _ _ _ => (pv 2)))))), ?_⟩
    refine ⟨.ref a, rfl, a, rfl, ⟨_, hA⟩, fun D nD => lc2_it (walk_tup (K := K) (a := a) (xs := us)) (fun i H' => Same H H' ∧ H' D = some (.lst ((P.take i).flatten.map V.str))) ⟨same_upd nD, upd_same⟩ (fun i H' _ hP => Same.tup hP.1 hA) (fun i x H1 H2 hi hP hY => ?_) (fun H1 hP => ?_)⟩
    · obtain ⟨rfl, hx⟩ := hY
      obtain ⟨s1, eD⟩ := hP
      obtain ⟨b, z, rfl, gz, mz, hb⟩ := dpAll_tx (dpAll_same s1 _ _ dU) hx
      have st : (P.take (i + 1)).flatten = (P.take i).flatten ++ z := by
        rw [List.take_add_one, gz, List.flatten_append]
        simp
      have lst : ((P.take i).flatten ++ z).length ≤ 1000 := by
        rw [← st]
        refine Nat.le_trans ?_ lF
        have e := List.take_append_drop (i + 1) P
        conv => rhs; rw [← e]
        rw [List.flatten_append, List.length_append]
        omega
      rw [List.length_append] at lst
      refine ⟨rfl, .ref b, rfl, b, rfl, ⟨_, hb⟩, inner_it (walk_tup (K := K) (a := b) (xs := z.map V.str)) (fun j H' => Same H H' ∧ H' D = some (.lst (((P.take i).flatten ++ z.take j).map V.str))) ⟨s1, by rw [List.take_zero, List.append_nil]; exact eD⟩ (fun j H' _ hP => ?_) (fun j x H3 H4 hj hP hY => ?_) (fun H3 hP => ?_)⟩
      · obtain ⟨b', z', e', gz', _, hb'⟩ := dpAll_tx (dpAll_same hP.1 _ _ dU) hx
        cases e'
        rw [gz] at gz'
        cases gz'
        exact hb'
      · obtain ⟨rfl, hx⟩ := hY
        obtain ⟨s3, eD3⟩ := hP
        rw [List.getElem?_map] at hx
        obtain ⟨y, hy, rfl⟩ := Option.map_eq_some_iff.mp hx
        refine ⟨rfl, .str y, rfl, _, eD3, ?_, same_mut s3 nD, ?_⟩
        · rw [List.length_map, List.length_append, List.length_take]
          exact small1000 (by omega)
        · rw [upd_same, List.take_add_one, hy, ← List.append_assoc, List.map_append (l₁ := (P.take i).flatten ++ z.take j)]
          rfl
      · obtain ⟨s3, eD3⟩ := hP
        rw [List.length_map, List.take_of_length_le (Nat.le_refl _)] at eD3
        exact ⟨s3, by rw [st]; exact eD3⟩
    · obtain ⟨s1, eD⟩ := hP
      rw [List.take_of_length_le (by omega)] at eD
      exact q H1 D s1 eD

def sp_is_parting (K : PySem.W.Frag) : Sp := fun vs H Q _ => ∃ (g : Addr) (v : V) (grp : List Str) (x : PyData) (bad : Addr → Prop) (k : Nat), vs = [.ref g, v] ∧ SqT K H g (grp.map V.str) ∧ (∀ x ∈ grp, NameOk x) ∧ Rep K H bad v x ∧ Thg k 1900 50 x ∧ ∀ H', Same H H' → Q (.bl (partingB grp x)) H'
theorem ok_is_parting (T : Top K mg) : Ok P w K mg base 3 "is_parting" ["group", "thing"] (sp_is_parting K) := by
  have O_is_rising := ok_is_rising (P := P) (w := w) (base := base) T
  have O_is_part := ok_is_part (P := P) (w := w) (base := base) T
  have O_names_in := ok_names_in (P := P) (w := w) (base := base) T
  refine T.d_is_parting.ok sc_is_parting (fun vs H Q E h => ?_) (fun f cdv A outer s H vs Q E hr h => ?_)
  · obtain ⟨g, v, grp, x, bad, k, rfl, _⟩ := h
    rfl
  · obtain ⟨g, v, grp, x, bad, k, rfl, hG, nmG, rv, th, q⟩ := h
    refine ⟨_, ((pss_cons (ps_if (PW.pt (pw_or (pt_not (pt_val (pe_callB call_isi (by rfl) T.b_isinstance (by decide +kernel) (pa_cons (pv 1) (pa_cons (pe_bltn (v := .ty "tuple") (u := .type "tuple") (by rfl) T.b_tuple (by decide +kernel) rfl) pa_nil))))) (pw_or (pt_cmpR op_lt (pe_callB call_len_seq (by rfl) T.b_len (by decide +kernel) (pa_cons (pv 1) pa_nil)) pe_int (nomark _)) (pw_or1 (pt_not (pt_val (pe_callB (cr_all (by rfl)) (by rfl) T.b_all (by decide +kernel) (pa_cons (pe_lc (own := [("part", 2)]) (g := gName 2) (by rfl) sc_is_parting.nd (pi_tup (pv 1)) (blkOk_by (own := [("part", 2)]) (N := N_is_parting) (sc := defScope s_is_parting) (by decide +kernel)) (fun _ _ _ _ _ => (pg_name (i := 2) sc_is_parting.nd rfl (.inl rfl))) (fun _ _ _ _ _ => pts_nil) (fun _ _ _ _ _ => (pe_callO O_is_part (hr.mono (by omega)) (by rfl) (pa_cons (pv 0) (pa_cons (pv 2) pa_nil))))) pa_nil))))))))
        (pss_one (ps_ret pe_bl))
        pss_nil)
      (pss_one (ps_ret (pe_and (pe_callO O_is_rising (hr.mono (by omega)) (by rfl) (pa_cons (pv 1) pa_nil)) (pe_one (pe_cmpR (op_eqD hr.units) (pe_callTy call_tuple_of (by rfl) T.b_tuple (by decide +kernel) (pa_cons (pe_callB (cr_sortXsL hr) (by rfl) T.b_sorted (by decide +kernel) (pa_cons (pe_callO O_names_in (hr.mono (by omega)) (by rfl) (pa_cons (pv 1) pa_nil)) pa_nil)) pa_nil)) (pv 0) (nomark _)))))))), ?_⟩
    refine ⟨v, rfl, v, .ty "tuple", _, _, _, rfl, .ty "tuple", rv.kd, kit_tuple _, _, rfl, ?_⟩
    by_cases hk : kdOf x = .tup
    · obtain ⟨ds, rfl⟩ := kd_tup_inv hk
      obtain ⟨a, xs, rfl, hA, hx⟩ := rep_tup rv
      have lx := repAll_len hx
      obtain ⟨it1, it2⟩ := th.items
      have it1 : 2 * ds.length ≤ 1900 := it1
      rw [decide_eq_true hk]
      refine iteF ⟨.ref a, rfl, a, _, rfl, .inr hA, _, 2, rfl, rfl, _, rfl, ?_⟩
      by_cases h2 : ds.length < 2
      · rw [decide_eq_true (by rw [lx]; omega : ((xs.length : Int) < 2))]
        have e0 : partingB grp (.tuple ds) = false := by
          simp only [partingB]
          rw [decide_eq_false (by omega)]
          rfl
        rw [e0] at q
        exact iteT (q H (Same.refl H))
      · rw [decide_eq_false (by rw [lx]; omega : ¬ ((xs.length : Int) < 2))]
        have e0 : partingB grp (.tuple ds) = (ds.all (partB grp) && risD ds && decide ((namesD ds).mergeSort strLe = grp)) := by
          simp only [partingB]
          rw [decide_eq_true (by omega), Bool.true_and]
        rw [e0] at q
        refine iteF ⟨.ref a, rfl, a, rfl, ⟨_, hA⟩, fun D nD => ?_⟩
        refine lc_it (walk_tup (K := K) (a := a) (xs := xs)) (fun k H' => Same H H' ∧ H' D = some (.lst (((ds.map (partB grp)).take k).map V.bl))) ⟨same_mut (Same.refl H) nD, upd_same⟩ (fun k H' _ hP => Same.tup hP.1 hA) (fun k x H1 H2 hk hP hY => ?_) (fun H' hP => ?_)
        · obtain ⟨rfl, e1⟩ := hY
          obtain ⟨sm, eD⟩ := hP
          obtain ⟨e, g', me, rx⟩ := repAll_get hx e1
          have rx := rep_stays (Stays.of sm) _ _ rx
          have := (it2 e me).items.1
          refine ⟨rfl, .ref g, rfl, x, rfl, g, x, grp, e, bad, rfl, Same.tup sm hG, rx, by omega, fun H3 s3 => ?_⟩
          refine ⟨_, s3 _ _ eD, ?_, same_mut (sm.trans s3) nD, ?_⟩
          · rw [List.length_map, List.length_take, List.length_map]
            exact small1000 (by omega)
          · rw [upd_same, List.take_add_one, List.getElem?_map, g', List.map_append]
            rfl
        · obtain ⟨sm, eD⟩ := hP
          rw [List.take_of_length_le (by rw [List.length_map]; omega)] at eD
          refine ⟨D, ds.map (partB grp), rfl, .inl (.inl eD), ?_⟩
          have ea : (ds.map (partB grp)).all id = ds.all (partB grp) := by
            rw [List.all_map]
            rfl
          rw [ea]
          cases hall : ds.all (partB grp) with
          | false =>
            simp only [hall, Bool.false_and] at q
            exact ⟨false, rfl, iteT (q H' sm)⟩
          | true =>
            simp only [hall, Bool.true_and] at q
            have hst : ds.all strPart = true := List.all_eq_true.mpr fun d hd => partB_str (List.all_eq_true.mp hall d hd)
            have ed := parts_of hst
            have en := parts_names ds
            generalize (ds.map fun d => (itemsD d).map stD) = P at ed en
            subst ed
            have dP := rep_txs hx
            have dP' := dpAll_same sm _ _ dP
            have wP := wt_parts P
            have w1 := th.w
            rw [wt] at w1
            rw [List.length_map] at it1 h2 lx
            refine ⟨true, rfl, iteF ⟨.ref a, rfl, a, xs, P.map txD, rfl, Same.tup sm hA, dP', alike_parts P, parts_some P, by omega, fun H2 s2 => ?_⟩⟩
            cases hr : risD (P.map txD) with
            | false =>
              simp only [hr, Bool.false_and] at q
              exact ⟨false, rfl, iteF (q H2 (sm.trans s2))⟩
            | true =>
              simp only [hr, Bool.true_and] at q
              have s02 := sm.trans s2
              refine ⟨true, rfl, iteT ⟨.ref a, rfl, .ref a, P, rfl, .tup (Same.tup s02 hA) (dpAll_same s02 _ _ dP), by omega, by omega, fun H3 l s3 e3 => ?_⟩⟩
              refine ⟨l, _, rfl, .inl (.inl e3), fun z nz' => ?_⟩
              generalize h4 : upd H3 z _ = H4
              obtain ⟨s4, e4⟩ := new_of h4 nz'
              refine ⟨z, _, rfl, .inl ⟨.inl (.inl e4), fun u nu => ?_⟩⟩
              generalize h5 : upd H4 u _ = H5
              obtain ⟨s5, e5⟩ := new_of h5 nu
              have s05 := ((s02.trans s3).trans s4).trans s5
              have oP : ∀ x ∈ P.flatten, PyData.strOk x = true := nz_parts th.tup.1
              refine ⟨.ref g, rfl, txD (P.flatten.mergeSort strLe), txD grp, .tup (.inl (.inl e5)) (dpAll_strs _), .tup (Same.tup s05 hG) (dpAll_strs _), shaped_txO _ (fun x hx => oP x ((List.mergeSort_perm _ _).mem_iff.mp hx)), shaped_txO _ (fun x hx => name_strOk (nmG x hx)), ?_⟩
              rw [eqv_tx, ← en]
              exact q H5 s05
    · rw [decide_eq_false hk]
      refine iteT ?_
      have : partingB grp x = false := by
        cases x with
        | tuple ds => exact absurd rfl hk
        | _ => rfl
      rw [this] at q
      exact q H (Same.refl H)

end
end OC

set_option Elab.async false
set_option linter.all false
set_option maxRecDepth 100000
set_option maxHeartbeats 4000000
namespace OC
open PySem PySem.Spec PyProof.Rows L2
section
variable {P : Program} {w : World} {K : PySem.W.Frag} {mg : Str → Option Value} {base : Heap}
theorem ok__law_due (T : Top K mg) : Ok P w K mg base 1 "_law_due" ["_law_group", "_law_thing"] (fun vs H Q _ => ∃ (g : Addr) (v : V) (grp : List Str) (x : PyData) (bad : Addr → Prop) (k : Nat), vs = [.ref g, v] ∧ SqT K H g (grp.map V.str) ∧ (∀ x ∈ grp, NameOk x) ∧ Rep K H bad v x ∧ Thg k 1900 50 x ∧ ∀ H', Same H H' → Q (.bl (dueB grp x)) H') := by
  refine T.d__law_due.ok sc__law_due (fun vs H Q E h => ?_) (fun f cdv A outer s H vs Q E hr h => ?_)
  · obtain ⟨g, v, grp, x, bad, k, rfl, _⟩ := h
    rfl
  · obtain ⟨g, v, grp, x, bad, k, rfl, hG, nmG, rv, th, q⟩ := h
    refine ⟨_, ((pss_cons (ps_if (PW.pt (pw_or (pt_not (pt_val (pe_callB call_isi (by rfl) T.b_isinstance (by decide +kernel) (pa_cons (pv 1) (pa_cons (pe_bltn (v := .ty "tuple") (u := .type "tuple") (by rfl) T.b_tuple (by decide +kernel) rfl) pa_nil))))) (pw_or1 (pt_cmpR op_lt (pe_callB call_len_seq (by rfl) T.b_len (by decide +kernel) (pa_cons (pv 1) pa_nil)) pe_int (nomark _)))))
        (pss_one (ps_ret pe_bl))
        pss_nil)
      (pss_cons (ps_set (i := 2) sc__law_due.nd rfl (.inl rfl) (pe_lst pa_nil))
      (pss_cons (ps_for PassesOwn.never (by rfl) (pi_tup (pv 1)) (pg_name (i := 3) sc__law_due.nd rfl (.inr rfl))
        (pss_cons (ps_if (PW.pt (pw_or (pt_not (pt_val (pe_callB call_isi (by rfl) T.b_isinstance (by decide +kernel) (pa_cons (pv 3) (pa_cons (pe_bltn (v := .ty "tuple") (u := .type "tuple") (by rfl) T.b_tuple (by decide +kernel) rfl) pa_nil))))) (pw_or (pt_cmpR (op_eqT0 (units1 hr)) (pv 3) (pe_tup pa_nil) (nomark _)) (pw_or1 (pt_cmpR (op_neNil hr.units) (pe_lc (own := [("_law_name", 4)]) (g := gName 4) (by rfl) sc__law_due.nd (pi_tup (pv 3)) (blkOk_by (own := [("_law_name", 4)]) (N := N__law_due) (sc := defScope s__law_due) (by decide +kernel)) (fun _ _ _ _ _ => (pg_name (i := 4) sc__law_due.nd rfl (.inl rfl))) (fun _ _ _ _ _ => (pts_one (pt_not (pt_val (pe_callB (show CallR _ (.builtin "isinstance") (rIsi K) from call_isi) (by rfl) T.b_isinstance (by decide +kernel) (pa_cons (pv 4) (pa_cons (pe_bltn (v := .ty "str") (u := .type "str") (by rfl) T.b_str (by decide +kernel) rfl) pa_nil))))))) (fun _ _ _ _ _ => (pv 4))) (pe_lst pa_nil) (nomark _))))))
          (pss_one (ps_ret pe_bl))
          pss_nil)
        (pss_cons (ps_if (pt_cmpR (op_neNil hr.units) (pe_lc (own := [("_law_k", 5)]) (g := gName 5) (by rfl) sc__law_due.nd (pi_range2 (by rfl) T.b_range (pa_cons pe_int (pa_cons (pe_callB call_len_seq (by rfl) T.b_len (by decide +kernel) (pa_cons (pv 3) pa_nil)) pa_nil))) (blkOk_by (own := [("_law_k", 5)]) (N := N__law_due) (sc := defScope s__law_due) (by decide +kernel)) (fun _ _ _ _ _ => (pg_name (i := 5) sc__law_due.nd rfl (.inl rfl))) (fun _ _ _ _ _ => (pts_one (pt_cmpR (show OpR _ (compareOp .GtE) (rGeD K) from op_geD hr.units) (pe_ix (show IxR _ (rIxT K) from ix_tup) (pv 3) (pe_op op_sub (pv 5) pe_int) (fun _ _ => rfl)) (pe_ix (show IxR _ (rIxT K) from ix_tup) (pv 3) (pv 5) (fun _ _ => rfl)) (nomark _)))) (fun _ _ _ _ _ => (pv 5))) (pe_lst pa_nil) (nomark _))
          (pss_one (ps_ret pe_bl))
          pss_nil)
        (pss_one (ps_set (i := 2) sc__law_due.nd rfl (.inl rfl) (pe_op op_cat (pv 2) (pe_callTy call_list_of (by rfl) T.b_list (by decide +kernel) (pa_cons (pv 3) pa_nil))))))))
      (pss_one (ps_ret (pe_and (pe_cmpR (op_eqD hr.units) (pe_callB (cr_sortXsL hr) (by rfl) T.b_sorted (by decide +kernel) (pa_cons (pv 2) pa_nil)) (pe_callTy call_list_of (by rfl) T.b_list (by decide +kernel) (pa_cons (pv 0) pa_nil)) (nomark _)) (pe_one (pe_cmpR (op_eqNil hr.units) (pe_lc (own := [("_law_k", 5)]) (g := gName 5) (by rfl) sc__law_due.nd (pi_range2 (by rfl) T.b_range (pa_cons pe_int (pa_cons (pe_callB call_len_seq (by rfl) T.b_len (by decide +kernel) (pa_cons (pv 1) pa_nil)) pa_nil))) (blkOk_by (own := [("_law_k", 5)]) (N := N__law_due) (sc := defScope s__law_due) (by decide +kernel)) (fun _ _ _ _ _ => (pg_name (i := 5) sc__law_due.nd rfl (.inl rfl))) (fun _ _ _ _ _ => (pts_one (pt_cmpR (show OpR _ (compareOp .GtE) (rGeD K) from op_geD hr.units) (pe_ix (show IxR _ (rIxT K) from ix_tup) (pv 1) (pe_op op_sub (pv 5) pe_int) (fun _ _ => rfl)) (pe_ix (show IxR _ (rIxT K) from ix_tup) (pv 1) (pv 5) (fun _ _ => rfl)) (nomark _)))) (fun _ _ _ _ _ => (pv 5))) (pe_lst pa_nil) (nomark _)))))))))), ?_⟩
    have sz : ∀ n : Nat, n ≤ 1000 → n ≤ sizeLine := fun n h => sz1000 h
    refine ⟨v, rfl, v, .ty "tuple", _, _, _, rfl, .ty "tuple", rv.kd, kit_tuple _, _, rfl, ?_⟩
    by_cases hk : kdOf x = .tup
    · obtain ⟨ds, rfl⟩ := kd_tup_inv hk
      obtain ⟨a, xs, rfl, hA, hx⟩ := rep_tup rv
      have lx := repAll_len hx
      obtain ⟨it1, it2⟩ := th.items
      have it1 : 2 * ds.length ≤ 1900 := it1
      rw [decide_eq_true hk]
      refine iteF ⟨.ref a, rfl, a, _, rfl, .inr hA, _, 2, rfl, rfl, _, rfl, ?_⟩
      by_cases h2 : ds.length < 2
      · rw [decide_eq_true (by rw [lx]; omega : ((xs.length : Int) < 2))]
        have e0 : dueB grp (.tuple ds) = false := by
          simp only [dueB]
          rw [decide_eq_false (by omega)]
          rfl
        rw [e0] at q
        exact iteT (q H (Same.refl H))
      · rw [decide_eq_false (by rw [lx]; omega : ¬ ((xs.length : Int) < 2))]
        have e0 : dueB grp (.tuple ds) = (ds.all strPart && decide ((namesD ds).mergeSort strLe = grp) && risD ds) := by
          simp only [dueB]
          rw [decide_eq_true (by omega), Bool.true_and]
        rw [e0] at q
        have no : ∀ e ∈ ds, strPart e = false → ∀ H', Same H H' → Q (.bl false) H' := fun e me he H' s => by
          have : ds.all strPart = false := by
            cases hh : ds.all strPart with
            | false => rfl
            | true => rw [List.all_eq_true.mp hh e me] at he; cases he
          rw [this] at q
          exact q H' s
        refine iteF ⟨sz 0 (by decide), fun L nL => ?_⟩
        generalize h0 : upd H L _ = H0
        obtain ⟨s0, e0'⟩ := new_of h0 nL
        refine ⟨.ref a, rfl, a, rfl, ⟨_, Same.tup s0 hA⟩, for_it (walk_tup (K := K) (a := a) (xs := xs)) (fun i σ H' => Same H H' ∧ ∃ (l : Addr) (y3 y4 y5 : Option V), H' l = some (.lst ((namesD (ds.take i)).map V.str)) ∧ (∀ e ∈ ds.take i, strPart e = true) ∧ σ = [some (.ref g), some (.ref a), some (.ref l), y3, y4, y5]) ⟨s0, L, none, none, none, e0', fun e he => (nomatch he), rfl⟩ (fun i σ H' _ hW => Same.tup hW.1 hA) (fun i x σ H2 H1 hi hW hY => ?_) (fun σ H1 hW => ?_)⟩
        · obtain ⟨rfl, hx1⟩ := hY
          obtain ⟨s1, l, y3, y4, y5, el, okp, rfl⟩ := hW
          obtain ⟨e, ge, me, re⟩ := repAll_get hx hx1
          have re := rep_stays (Stays.of s1) _ _ re
          have the := it2 e me
          refine ⟨x, rfl, x, .ty "tuple", _, _, _, rfl, .ty "tuple", re.kd, kit_tuple _, _, rfl, ?_⟩
          by_cases hke : kdOf e = .tup
          · obtain ⟨es, rfl⟩ := kd_tup_inv hke
            obtain ⟨b, ys, rfl, hB, hy⟩ := rep_tup re
            have ly := repAll_len hy
            have les : 2 * es.length ≤ 1900 := the.items.1
            rw [decide_eq_true hke]
            refine iteF ⟨.ref b, rfl, sz 0 (by decide), fun t0 n0 => ?_⟩
            generalize h3 : upd _ t0 _ = H3
            obtain ⟨s3, e3⟩ := new_of h3 n0
            have hB3 := Same.tup s3 hB
            refine ⟨b, t0, ys, rfl, rfl, hB3, .inl (.inl e3), _, rfl, ?_⟩
            rcases Nat.eq_zero_or_pos es.length with hz | hz
            · have e0 : es = [] := List.eq_nil_of_length_eq_zero hz
              subst e0
              rw [List.isEmpty_iff.mpr (List.eq_nil_of_length_eq_zero ly)]
              exact iteT (no _ me rfl _ (s1.trans s3))
            · have em : ys.isEmpty = false := by
                cases ys with
                | nil => rw [← ly] at hz; simp at hz
                | cons _ _ => rfl
              have em2 : es.isEmpty = false := by
                cases es with
                | nil => simp at hz
                | cons _ _ => rfl
              rw [em]
              have hy3 := repAll_weak (b2 := NB) (fun a z => z.elim) _ _ (repAll_stays (Stays.of s3) _ _ hy)
              refine iteF ⟨.ref b, rfl, b, rfl, ⟨_, hB3⟩, lc_filterR (K := K) (fun d => !isStD d) (walk_tup (K := K) (a := b) (xs := ys)) (fun H' s => Same.tup s hB3) hy3 (by omega) (fun _ => rfl) (by show (4 : Nat) < 6; decide) (fun v d H' Q' md rv sm hQ => ?_) (fun D H4 us s4 nD eD rD => ?_)⟩
              · refine ⟨v, rfl, v, .ty "str", _, _, _, rfl, .ty "str", rv.kd, kit_str _, _, rfl, ?_⟩
                have e : (!decide (kdOf d = .str)) = (!isStD d) := by cases d <;> rfl
                show Q' (!decide (kdOf d = .str)) H'
                rw [e]
                exact hQ H' (Same.refl _)
              · refine ⟨Nat.zero_le _, fun u nu => ?_⟩
                generalize h5 : upd H4 u _ = H5
                obtain ⟨s5, e5⟩ := new_of h5 nu
                refine ⟨D, u, _, rfl, rfl, s5 _ _ eD, e5, _, rfl, ?_⟩
                rw [filter_all rD]
                have s15 := ((s1.trans s3).trans s4).trans s5
                cases hall : es.all isStD with
                | false => exact iteT (no _ me (by simp only [strPart, hall, Bool.and_false, Bool.false_and]) _ s15)
                | true =>
                  have hB5 := Same.tup (s4.trans s5) hB3
                  have ees := strs_of hall
                  have hyS := hy
                  rw [ees] at hyS
                  have ex := rep_strsV hyS
                  refine iteF ⟨.ref b, rfl, b, _, rfl, .inr hB5, 1, _, rfl, ⟨by decide, by decide, by omega, by omega⟩, ?_⟩
                  rw [show ((ys.length : Int) - 1).toNat = es.length - 1 by omega]
                  refine lc_rise (by omega) (fun _ => rfl) (by show (5 : Nat) < 6; decide) (fun k H' Q' hk sm hQ => ?_) (fun D2 H6 us2 s6 nD2 eD2 rD2 => ?_)
                  · have hB' := Same.tup sm hB5
                    have g1 : ys[k]? = some (.str (stD (es.getD k .none))) := by
                      rw [ex, List.getElem?_map, List.getElem?_map, getD_at (by omega), List.getElem?_eq_getElem (by omega)]
                      rfl
                    have g2 : ys[k + 1]? = some (.str (stD (es.getD (k + 1) .none))) := by
                      rw [ex, List.getElem?_map, List.getElem?_map, getD_at (by omega), List.getElem?_eq_getElem (by omega)]
                      rfl
                    have st : ∀ j, j < es.length → es.getD j .none = .str (stD (es.getD j .none)) := fun j hj => by
                      rw [getD_at hj]
                      have := List.all_eq_true.mp hall _ (List.getElem_mem hj)
                      cases he : es[j] with
                      | str z => rfl
                      | _ => rw [he] at this; exact absurd this Bool.false_ne_true
                    rw [st k (by omega), st (k + 1) (by omega)] at hQ
                    refine ⟨.ref b, rfl, .int (1 + k), rfl, 1 + k, 1, rfl, rfl, b, _, 1 + (k : Int) - 1, _, rfl, rfl, hB', at_of (j := k) (by omega) g1, ?_⟩
                    refine ⟨.ref b, rfl, .int (1 + k), rfl, b, _, 1 + (k : Int), _, rfl, rfl, hB', at_of (j := k + 1) (by omega) g2, ?_⟩
                    exact ⟨_, _, .str _, .str _, rfl, (fun z => (nomatch z)), by simp [PyData.depth], _, rfl, hQ⟩
                  · refine ⟨Nat.zero_le _, fun u2 nu2 => ?_⟩
                    generalize h7 : upd H6 u2 _ = H7
                    obtain ⟨s7, e7⟩ := new_of h7 nu2
                    refine ⟨D2, u2, _, rfl, rfl, s7 _ _ eD2, e7, _, rfl, ?_⟩
                    rw [rD2]
                    have s17 := (s15.trans s6).trans s7
                    cases hr2 : risD es with
                    | false => exact iteT (no _ me (by simp only [strPart, hr2, Bool.and_false]) _ s17)
                    | true =>
                      have hB7 := Same.tup (s6.trans s7) hB5
                      refine iteF ⟨.ref l, rfl, .ref b, rfl, b, _, rfl, .inr hB7, fun w nw => ?_⟩
                      generalize h8 : upd H7 w _ = H8
                      obtain ⟨s8, e8⟩ := new_of h8 nw
                      have el8 := s8 _ _ ((((s3.trans s4).trans s5).trans (s6.trans s7)) _ _ el)
                      have okp' : ∀ e ∈ ds.take (i + 1), strPart e = true := fun e he => by
                        rw [drop_at ge] at he
                        rcases List.mem_append.mp he with h | h
                        · exact okp e h
                        · rw [List.mem_singleton.mp h]
                          simp only [strPart, hall, hr2, em2, Bool.not_false, Bool.and_self]
                      refine ⟨l, w, _, _, rfl, rfl, el8, e8, ?_, fun u3 n3 => ?_⟩
                      · have hst : (ds.take i).all strPart = true := List.all_eq_true.mpr okp
                        have h1 := wt_parts ((ds.take i).map fun d => (itemsD d).map stD)
                        rw [← parts_of hst, ← parts_names] at h1
                        have h3 := th.w
                        rw [wt] at h3
                        have h4 := wtAll_take ds i
                        rw [List.length_map]
                        exact szM (by omega)
                      · generalize h9 : upd H8 u3 _ = H9
                        obtain ⟨s9, e9⟩ := new_of h9 n3
                        refine ⟨(s17.trans s8).trans s9, u3, _, _, _, ?_, okp', rfl⟩
                        rw [drop_at ge, names_snoc, List.map_append, e9, ex]
                        rfl
          · rw [decide_eq_false hke]
            refine iteT (no _ me ?_ _ s1)
            cases e with
            | tuple es => exact absurd rfl hke
            | _ => rfl
        · obtain ⟨s1, l, y3, y4, y5, el, okp, rfl⟩ := hW
          rw [lx, List.take_of_length_le (Nat.le_refl _)] at el okp
          have hst : ds.all strPart = true := List.all_eq_true.mpr okp
          simp only [hst, Bool.true_and] at q
          have ed := parts_of hst
          have en := parts_names ds
          have oP : ∀ x ∈ (ds.map fun d => (itemsD d).map stD).flatten, PyData.strOk x = true := nz_parts (g := k) (by rw [← ed]; exact th.tup.1)
          have dP := rep_txs (P := ds.map fun d => (itemsD d).map stD) (xs := xs) (by rw [← ed]; exact hx)
          rw [← ed] at dP
          have alP := alike_parts (ds.map fun d => (itemsD d).map stD)
          have smP := parts_some (ds.map fun d => (itemsD d).map stD)
          rw [← ed] at alP smP
          refine ⟨.ref l, rfl, l, _, rfl, .inl (.inl el), fun z nz' => ?_⟩
          generalize h4 : upd H1 z _ = H4
          obtain ⟨s4, e4⟩ := new_of h4 nz'
          have hG4 := Same.tup (s1.trans s4) hG
          refine ⟨.ref g, rfl, g, _, rfl, .inr hG4, fun u nu => ?_⟩
          generalize h5 : upd H4 u _ = H5
          obtain ⟨s5, e5⟩ := new_of h5 nu
          have s15 := (s1.trans s4).trans s5
          refine ⟨.list (((namesD ds).mergeSort strLe).map .str), .list (grp.map .str), .lst (.inl (.inl (s5 _ _ e4))) (dpAll_strs _), .lst (.inl (.inl e5)) (dpAll_strs _), shaped_lx _ (fun x hx => oP x (by rw [← en]; exact (List.mergeSort_perm _ _).mem_iff.mp hx)), shaped_lx _ (fun x hx => name_strOk (nmG x hx)), ?_⟩
          rw [eqv_lx]
          by_cases hs : (namesD ds).mergeSort strLe = grp
          · simp only [decide_eq_true hs, Bool.true_and] at q
            rw [decide_eq_true hs]
            have hA5 := Same.tup s15 hA
            refine ⟨true, rfl, iteT ⟨.ref a, rfl, a, _, rfl, .inr hA5, 1, _, rfl, ⟨by decide, by decide, by omega, by omega⟩, ?_⟩⟩
            rw [show ((xs.length : Int) - 1).toNat = ds.length - 1 by omega]
            refine lc_rise (by omega) (fun _ => rfl) (by show (5 : Nat) < 6; decide) (fun k H' Q' hk sm hQ => ?_) (fun D2 H6 us2 s6 nD2 eD2 rD2 => ?_)
            · have hA' := Same.tup sm hA5
              obtain ⟨d1, f1, m1, p1⟩ := dpAll_get dP (List.getElem?_eq_getElem (show k < xs.length by omega))
              obtain ⟨d2, f2, m2, p2⟩ := dpAll_get dP (List.getElem?_eq_getElem (show k + 1 < xs.length by omega))
              rw [List.getD_eq_getElem?_getD, List.getD_eq_getElem?_getD, f1, f2] at hQ
              have sa := s15.trans sm
              refine ⟨.ref a, rfl, .int (1 + k), rfl, 1 + k, 1, rfl, rfl, a, _, 1 + (k : Int) - 1, _, rfl, rfl, hA', at_of (j := k) (by omega) (List.getElem?_eq_getElem (show k < xs.length by omega)), ?_⟩
              refine ⟨.ref a, rfl, .int (1 + k), rfl, a, _, 1 + (k : Int), _, rfl, rfl, hA', at_of (j := k + 1) (by omega) (List.getElem?_eq_getElem (show k + 1 < xs.length by omega)), ?_⟩
              exact ⟨d1, d2, dp_same sa _ _ p1, dp_same sa _ _ p2, alP _ m1 _ m2, (smP _ m1).1, (smP _ m1).2, _, rfl, hQ⟩
            · refine ⟨Nat.zero_le _, fun u2 nu2 => ?_⟩
              generalize h7 : upd H6 u2 _ = H7
              obtain ⟨s7, e7⟩ := new_of h7 nu2
              refine ⟨D2, u2, _, rfl, rfl, s7 _ _ eD2, e7, ?_⟩
              rw [rD2]
              exact q H7 ((s15.trans s6).trans s7)
          · rw [decide_eq_false hs, Bool.false_and] at q
            rw [decide_eq_false hs]
            exact ⟨false, rfl, iteF (q H5 s15)⟩
    · rw [decide_eq_false hk]
      refine iteT ?_
      have : dueB grp x = false := by
        cases x with
        | tuple ds => exact absurd rfl hk
        | _ => rfl
      rw [this] at q
      exact q H (Same.refl H)

end
end OC

set_option Elab.async false
set_option linter.all false
set_option maxRecDepth 100000
set_option maxHeartbeats 4000000
namespace OC
open PySem PySem.Spec PyProof.Rows L2
section
variable {P : Program} {w : World} {K : PySem.W.Frag} {mg : Str → Option Value} {base : Heap}
/-- lists of texts in a list -/
structure Bags (H : Hp) (M : Addr) (as : List Addr) (Ps : List (List Str)) : Prop where
  m : H M = some (.lst (as.map V.ref))
  l : as.length = Ps.length
  nd : (M :: as).Nodup
  at_ : ∀ (i : Nat) (a : Addr) (p : List Str), as[i]? = some a → Ps[i]? = some p → H a = some (.lst (p.map V.str))
theorem Bags.keep {H H' : Hp} {M : Addr} {as : List Addr} {Ps : List (List Str)} (B : Bags H M as Ps) (h : ∀ a o, a ∈ M :: as → H a = some o → H' a = some o) : Bags H' M as Ps :=
  ⟨h _ _ List.mem_cons_self B.m, B.l, B.nd, fun i a p e g => h _ _ (List.mem_cons_of_mem _ (List.mem_of_getElem? e)) (B.at_ i a p e g)⟩
theorem Bags.put {H : Hp} {M : Addr} {as : List Addr} {Ps : List (List Str)} (B : Bags H M as Ps) {i : Nat} {a : Addr} {p : List Str} (ha : as[i]? = some a) (x : Str) : Bags (upd H a (.lst ((p ++ [x]).map V.str))) M as (Ps.set i (p ++ [x])) := by
  obtain ⟨hm, hl, nd, hat⟩ := B
  have ma := List.mem_of_getElem? ha
  have nd2 := (List.nodup_cons.mp nd)
  have neM : M ≠ a := fun z => nd2.1 (by rw [z]; exact ma)
  refine ⟨by rw [upd_ne neM]; exact hm, by rw [List.length_set]; exact hl, nd, fun j b q hb hq => ?_⟩
  by_cases e : j = i
  · subst e
    rw [ha] at hb
    cases hb
    have hj : j < Ps.length := by
      have := (List.getElem?_eq_some_iff.mp ha).1
      omega
    rw [List.getElem?_set_self hj] at hq
    cases hq
    exact upd_same
  · rw [List.getElem?_set_ne (Ne.symm e)] at hq
    have ne : b ≠ a := fun z => e (by
      subst z
      exact (List.getElem?_inj (List.getElem?_eq_some_iff.mp hb).1 nd2.2).mp (hb.trans ha.symm))
    rw [upd_ne ne]
    exact hat j b q hb hq
theorem set_flat {Ps : List (List Str)} {i : Nat} {p : List Str} (h : Ps[i]? = some p) (x : Str) : (Ps.set i (p ++ [x])).flatten.length = Ps.flatten.length + 1 ∧ ∀ y ∈ (Ps.set i (p ++ [x])).flatten, y ∈ Ps.flatten ∨ y = x := by
  obtain ⟨hi, rfl⟩ := List.getElem?_eq_some_iff.mp h
  have e1 : Ps = Ps.take i ++ Ps[i] :: Ps.drop (i + 1) := by rw [← List.drop_eq_getElem_cons hi, List.take_append_drop]
  rw [List.set_eq_take_append_cons_drop, if_pos hi]
  constructor
  · conv => rhs; rw [e1]
    simp only [List.flatten_append, List.flatten_cons, List.length_append, List.length_cons, List.length_nil]
    omega
  · intro y hy
    simp only [List.flatten_append, List.flatten_cons, List.mem_append, List.mem_singleton] at hy
    rw [e1]
    simp only [List.flatten_append, List.flatten_cons, List.mem_append]
    rcases hy with h | (h | h) | h
    · exact .inl (.inl h)
    · exact .inl (.inr (.inl h))
    · exact .inr h
    · exact .inl (.inr (.inr h))
theorem flat_le : ∀ (Ps : List (List Str)), (Ps.filter fun p => !p.isEmpty).flatten = Ps.flatten
  | [] => rfl
  | [] :: Ps => by
    rw [List.filter_cons_of_neg (by simp), flat_le Ps]
    simp
  | (x :: p) :: Ps => by
    rw [List.filter_cons_of_pos (by simp), List.flatten_cons, List.flatten_cons, flat_le Ps]
/-- parts of some of the texts, few -/
structure PtsOk (grp : List Str) (P : List (List Str)) : Prop where
  two : 2 ≤ P.length
  len : P.length ≤ grp.length
  few : P.flatten.length ≤ grp.length
  nm : ∀ x ∈ P.flatten, x ∈ grp
def sp_drawn35 (K : PySem.W.Frag) : Sp := fun vs H Q _ => ∃ (d c e g : Addr) (t : Int) (grp : List Str), vs = [.ref d, .ref g] ∧ Drw H d c e t ∧ t ≤ 900000 ∧ SqT K H g (grp.map V.str) ∧ 2 ≤ grp.length ∧ grp.length ≤ 20 ∧
  ∀ (H' : Hp) (v : V) (P : List (List Str)) (t' : Int), Kept d e H H' → Drw H' d c e t' → t' ≤ t + 20 → Dp K H' v (ptD P) → PtsOk grp P → Q v H'
theorem ok__law_drawn (T : Top K mg) : Ok P w K mg base 2 "_law_drawn" ["_law_drawn_here", "_law_group"] (sp_drawn35 K) := by
  have O__law_next := ok__law_next (P := P) (w := w) (base := base) T
  refine T.d__law_drawn.ok sc__law_drawn (fun vs H Q E h => ?_) (fun f cdv A outer s H vs Q E hr h => ?_)
  · obtain ⟨d, c, e, g, t, grp, rfl, _⟩ := h
    rfl
  · obtain ⟨d, c, e, g, t, grp, rfl, D0, ht, hG, g2, g20, q⟩ := h
    refine ⟨_, ((pss_cons (ps_setLc (i := 3) (own := [("_law_name", 2)]) (g := gName 2) (by rfl) sc__law_drawn.nd rfl rfl (sw_true rfl rfl rfl (by decide +kernel)) (pi_tup (pv 1)) (blkOk_by (own := [("_law_name", 2)]) (N := N__law_drawn) (sc := defScope s__law_drawn) (by decide +kernel)) (fun _ _ _ _ _ => (pg_name (i := 2) sc__law_drawn.nd rfl (.inl rfl))) (fun _ _ _ _ _ => pts_nil) (fun _ _ _ _ _ => (pe_lst pa_nil)))
      (pss_cons (ps_for PassesOwn.never (by rfl) (pi_tup (pv 1)) (pg_name (i := 2) sc__law_drawn.nd rfl (.inl rfl))
        (pss_one (ps_expr (pe_bm PySem.F.plainAttrs_list PySem.F.slot_list_append PySem.F.type_list_append mt_append (pe_ix ix_list (pv 3) (pe_callO O__law_next (hr.mono (by omega)) (by rfl) (pa_cons (pv 0) (pa_cons (pe_callB call_len_seq (by rfl) T.b_len (by decide +kernel) (pa_cons (pv 1) pa_nil)) pa_nil))) (fun _ _ => rfl)) (pa_cons (pv 2) pa_nil)))))
      (pss_cons (ps_set (i := 5) sc__law_drawn.nd rfl (.inl rfl) (pe_callB (cr_sortDd hr) (by rfl) T.b_sorted (by decide +kernel) (pa_cons (pe_lc (own := [("_law_part", 4)]) (g := gName 4) (by rfl) sc__law_drawn.nd (pi_list (pv 3)) (blkOk_by (own := [("_law_part", 4)]) (N := N__law_drawn) (sc := defScope s__law_drawn) (by decide +kernel)) (fun _ _ _ _ _ => (pg_name (i := 4) sc__law_drawn.nd rfl (.inl rfl))) (fun _ _ _ _ _ => (pts_one (pt_cmpR (show OpR _ (compareOp .NotEq) rNeNil from op_neNil hr.units) (pv 4) (pe_lst pa_nil) (nomark _)))) (fun _ _ _ _ _ => (pe_callTy (show CallR _ (.type "tuple") (rTupQ K) from call_tuple_of) (by rfl) T.b_tuple (by decide +kernel) (pa_cons (pv 4) pa_nil)))) pa_nil)))
      (C8.pss_cut (ps_if (pt_cmpR op_lt (pe_callB call_len_seq (by rfl) T.b_len (by decide +kernel) (pa_cons (pv 5) pa_nil)) pe_int (nomark _))
        (pss_one (ps_set (i := 5) sc__law_drawn.nd rfl (.inl rfl) (pe_lst (pa_cons (pe_slice sl_tupB (pv 1) po_none (po_some pe_int)) (pa_cons (pe_slice sl_tupB (pv 1) (po_some pe_int) po_none) pa_nil)))))
        pss_nil)
      (pss_one (ps_ret (pe_callTy call_tuple_of (by rfl) T.b_tuple (by decide +kernel) (pa_cons (pv 5) pa_nil))))))))), ?_⟩
    have lg : (grp.map V.str).length = grp.length := List.length_map ..
    have sz : ∀ n : Nat, n ≤ 1000 → n ≤ sizeLine := fun n h => sz1000 h
    refine ⟨.ref g, rfl, g, rfl, ⟨_, hG⟩, fun M nM => lc_it (walk_tup (K := K) (a := g) (xs := grp.map V.str)) (fun k H' => Same H H' ∧ ∃ as : List Addr, H' M = some (.lst (as.map V.ref)) ∧ as.length = k ∧ (M :: as).Nodup ∧ ∀ a ∈ as, H' a = some (.lst []) ∧ H a = none) ⟨same_upd nM, [], upd_same, rfl, by simp, fun a ha => (nomatch ha)⟩ (fun k H' _ hP => Same.tup hP.1 hG) (fun k x H1 H2 hk hP hY => ?_) (fun H1 hP => ?_)⟩
    · obtain ⟨rfl, hx⟩ := hY
      obtain ⟨s1, as, eM, la, nd, hat⟩ := hP
      refine ⟨rfl, sz 0 (by decide), fun u nu => ?_⟩
      generalize h3 : upd _ u _ = H3
      obtain ⟨s3, e3⟩ := new_of h3 nu
      have nuM : u ≠ M := fun z => by subst z; rw [eM] at nu; cases nu
      refine ⟨_, s3 _ _ eM, by rw [List.length_map]; exact small1000 (by omega), same_mut (s1.trans s3) nM, as ++ [u], by rw [upd_same, List.map_append]; rfl, by rw [List.length_append, la]; rfl, ?_, fun a ha => ?_⟩
      · rw [← List.cons_append, List.nodup_append]
        refine ⟨nd, by simp, fun a ha b hb => ?_⟩
        rw [List.mem_singleton.mp hb]
        rcases List.mem_cons.mp ha with rfl | ha
        · exact nuM.symm
        · exact fun z => by subst z; rw [(hat a ha).1] at nu; cases nu
      · rcases List.mem_append.mp ha with h | h
        · have : a ≠ M := fun z => by subst z; exact (List.nodup_cons.mp nd).1 h
          rw [upd_ne this]
          exact ⟨s3 _ _ (hat a h).1, (hat a h).2⟩
        · rw [List.mem_singleton.mp h, upd_ne nuM]
          exact ⟨e3, s1.free nu⟩
    obtain ⟨s1, as, eM, la, nd, hat⟩ := hP
    have D1 := D0.same s1
    have Bg : Bags H1 M as (as.map fun _ => []) := ⟨eM, by rw [List.length_map], nd, fun i a p e g => by
      rw [List.getElem?_map] at g
      obtain ⟨_, _, rfl⟩ := Option.map_eq_some_iff.mp g
      exact (hat a (List.mem_of_getElem? e)).1⟩
    have fl0 : ∀ l : List Addr, (l.map fun _ => ([] : List Str)).flatten = [] := fun l => by
      induction l with
      | nil => rfl
      | cons x l ih => rw [List.map_cons, List.flatten_cons, ih]; rfl
    have nbM : ∀ a, a ∈ M :: as → ¬ Bd3 d c e a := fun a ha => by
      rcases List.mem_cons.mp ha with rfl | ha
      · exact D0.fresh nM
      · exact D0.fresh (hat a ha).2
    refine ⟨.ref g, rfl, g, rfl, ⟨_, Same.tup s1 hG⟩, for_it (walk_tup (K := K) (a := g) (xs := grp.map V.str)) (fun i σ H' => SqT K H' g (grp.map V.str) ∧ Kept d e H H' ∧ ∃ (t' : Int) (Ps : List (List Str)) (y2 : Option V), Drw H' d c e t' ∧ t' ≤ t + i ∧ Bags H' M as Ps ∧ Ps.flatten.length = i ∧ (∀ x ∈ Ps.flatten, x ∈ grp) ∧ σ = [some (.ref d), some (.ref g), y2, some (.ref M), none, none]) ⟨Same.tup s1 hG, Kept.of s1, t, _, none, D1, by omega, Bg, by rw [fl0]; rfl, fun x hx => (by rw [fl0] at hx; cases hx), rfl⟩ (fun i σ H' _ hW => hW.1) (fun i x σ H3 H2 hi hW hY => ?_) (fun σ H2 hW => ?_)⟩
    · obtain ⟨rfl, hx⟩ := hY
      obtain ⟨hG2, k2, t2, Ps, y2, D2, ht2, B2, lP, mP, rfl⟩ := hW
      rw [List.getElem?_map] at hx
      obtain ⟨y, gy, rfl⟩ := Option.map_eq_some_iff.mp hx
      refine ⟨.ref M, rfl, .ref d, rfl, .ref g, rfl, g, _, rfl, .inr hG2, d, c, e, t2, _, rfl, D2, by omega, by omega, by omega, fun H4 z k4 D4 z0 z1 => ?_⟩
      have B4 : Bags H4 M as Ps := B2.keep fun a o ha h => Drw.lst (c := c) k4 (nbM a ha) h
      have hz : z.toNat < as.length := by omega
      have ga := List.getElem?_eq_getElem hz
      have gp := List.getElem?_eq_getElem (show z.toNat < Ps.length by rw [← B4.l]; exact hz)
      generalize as[z.toNat] = a at ga
      generalize Ps[z.toNat]'(by rw [← B4.l]; exact hz) = p at gp
      have ea := B4.at_ _ _ _ ga gp
      have hG4 := D2.tup k4 hG2
      have ba := nbM a (List.mem_cons_of_mem _ (List.mem_of_getElem? ga))
      have lp : p.length ≤ Ps.flatten.length := by
        have := List.Sublist.length_le (List.sublist_flatten_of_mem (List.mem_of_getElem? gp))
        exact this
      refine ⟨M, _, z, .ref a, rfl, rfl, .inl (.inl B4.m), at_of (j := z.toNat) (by omega) (by rw [List.getElem?_map, ga]; rfl), ?_⟩
      refine ⟨.inl ⟨rfl, _, .inl (.inl ea)⟩, .str y, rfl, a, _, .str y, rfl, rfl, ea, by rw [List.length_map]; exact small1000 (by omega), ?_⟩
      obtain ⟨f1, f2⟩ := set_flat gp y
      refine ⟨?_, (k2.trans k4).mut (hat a (List.mem_of_getElem? ga)).2, t2 + 1, Ps.set z.toNat (p ++ [y]), _, D4.mut ba, by omega, ?_, by rw [f1, lP], fun x hx => ?_, rfl⟩
      · exact (Tk.refl H4).mut ea _ _ _ hG4
      · have := B4.put ga (p := p) y
        rw [List.map_append] at this
        exact this
      · rcases f2 x hx with h | h
        · exact mP x h
        · rw [h]
          exact List.mem_of_getElem? gy
    obtain ⟨hG2, k2, t2, Ps, y2, D2, ht2, B2, lP, mP, rfl⟩ := hW
    rw [lg] at lP ht2
    have lPs : Ps.length = grp.length := by rw [← B2.l, la, lg]
    refine ⟨.ref M, rfl, M, rfl, ⟨_, .inl (.inl B2.m)⟩, fun D nD => lc_it (walk_list (K := K) (a := M) (xs := as.map V.ref)) (fun k H' => Same H2 H' ∧ ∃ ws, H' D = some (.lst ws) ∧ ws.length ≤ k ∧ DpAll K H' ws (((Ps.take k).filter fun p => !p.isEmpty).map txD)) ⟨same_upd nD, [], upd_same, Nat.le_refl _, .nil⟩ (fun k H' _ hP => .inl (.inl (hP.1 _ _ B2.m))) (fun k x H4 H3 hk hP hY => ?_) (fun H3 hP => ?_)⟩
    · obtain ⟨rfl, hx⟩ := hY
      obtain ⟨s3, ws, eD, lw, dw⟩ := hP
      rw [List.getElem?_map] at hx
      obtain ⟨a, ga, rfl⟩ := Option.map_eq_some_iff.mp hx
      have hk' : k < Ps.length := by rw [← B2.l]; exact (List.getElem?_eq_some_iff.mp ga).1
      have gp := List.getElem?_eq_getElem hk'
      generalize Ps[k] = p at gp
      have ea := s3 _ _ (B2.at_ _ _ _ ga gp)
      have tk : (Ps.take (k + 1)).filter (fun p => !p.isEmpty) = (Ps.take k).filter (fun p => !p.isEmpty) ++ (if (!p.isEmpty) = true then [p] else []) := by
        rw [List.take_add_one, gp, List.filter_append]
        congr 1
        cases p <;> rfl
      refine ⟨rfl, .ref a, rfl, sz 0 (by decide), fun u nu => ?_⟩
      generalize h5 : upd _ u _ = H5
      obtain ⟨s5, e5⟩ := new_of h5 nu
      refine ⟨a, u, _, rfl, rfl, s5 _ _ ea, e5, _, rfl, ?_⟩
      rw [List.isEmpty_map]
      cases hp : (!p.isEmpty) with
      | true =>
        rw [hp] at tk
        refine iteT ⟨.ref a, rfl, a, _, rfl, .inl ⟨.inl (.inl (s5 _ _ ea)), fun w nw => ?_⟩⟩
        generalize h6 : upd H5 w _ = H6
        obtain ⟨s6, e6⟩ := new_of h6 nw
        have s36 := s5.trans s6
        have tkk : Tk H6 (upd H6 D (.lst (ws ++ [.ref w]))) := (Tk.refl _).mut (s36 _ _ eD)
        refine ⟨ws, s36 _ _ eD, small1000 (by omega), same_mut (s3.trans s36) nD, ws ++ [.ref w], upd_same, by rw [List.length_append]; simp only [List.length_cons, List.length_nil]; omega, ?_⟩
        rw [tk, if_pos rfl, List.map_append]
        exact dpAll_append (dpAll_tk ((Tk.of s36).trans tkk) _ _ (noL_txs _) dw) (.cons (.tup (xs := p.map V.str) (tkk _ _ _ (.inl (.inl e6))) (dpAll_strs _)) .nil)
      | false =>
        rw [hp] at tk
        refine iteF ⟨s3.trans s5, ws, s5 _ _ eD, by omega, ?_⟩
        rw [tk, if_neg (by decide), List.append_nil]
        exact dpAll_same s5 _ _ dw
    obtain ⟨s3, ws, eD, lw, dw⟩ := hP
    rw [List.length_map, B2.l, List.take_of_length_le (Nat.le_refl _)] at dw
    have fe := flat_le Ps
    have lf : (Ps.filter fun p => !p.isEmpty).length ≤ grp.length := by
      rw [← lPs]
      exact List.length_filter_le _ _
    have ne : ∀ p ∈ Ps.filter (fun p => !p.isEmpty), p ≠ [] := fun p hp => by
      have := (List.mem_filter.mp hp).2
      intro z
      subst z
      exact absurd this (by decide)
    generalize (Ps.filter fun p => !p.isEmpty) = Pf at dw fe lf ne
    have srt : SortableE (Pf.map txD) := .inl (.inl fun d hd => by
      obtain ⟨y, my, rfl⟩ := List.mem_map.mp hd
      cases y with
      | nil => exact absurd rfl (ne _ my)
      | cons x r => exact ⟨.str x, r.map PyData.str, rfl⟩)
    refine ⟨D, ws, _, rfl, .inl (.inl eD), dw, PySem.W.AllAlike.of alike_tx, srt, fun p hp => ?_, fun z us nz' pm du => ?_⟩
    · obtain ⟨y, _, rfl⟩ := List.mem_map.mp hp
      rw [depth_tx]
      decide
    rw [sort_map] at du
    have pf := List.mergeSort_perm Pf (PySem.W.dataLe false txD)
    have lq : (Pf.mergeSort (PySem.W.dataLe false txD)).length = Pf.length := pf.length_eq
    have fl2 : (Pf.mergeSort (PySem.W.dataLe false txD)).flatten.length = Pf.flatten.length := pf.flatten.length_eq
    have fm : ∀ x ∈ (Pf.mergeSort (PySem.W.dataLe false txD)).flatten, x ∈ grp := fun x hx => mP x (by rw [← fe]; exact pf.flatten.mem_iff.mp hx)
    generalize Pf.mergeSort (PySem.W.dataLe false txD) = P1 at du lq fl2 fm
    generalize h4 : upd H3 z _ = H4
    obtain ⟨s4, e4⟩ := new_of h4 nz'
    have s24 := s3.trans s4
    have d4 := dpAll_same s4 _ _ du
    have lu := dpAll_len du
    rw [List.length_map] at lu
    refine ⟨fun σ' H' => ∃ (y2 y4 : Option V) (l : Addr) (us : List V) (P : List (List Str)), Same H4 H' ∧ H' l = some (.lst us) ∧ DpAll K H' us (P.map txD) ∧ PtsOk grp P ∧ σ' = [some (.ref d), some (.ref g), y2, some (.ref M), y4, some (.ref l)], ?_, ?_⟩
    · refine ⟨.ref z, rfl, z, _, rfl, .inl (.inl (.inl e4)), _, 2, rfl, rfl, _, rfl, ?_⟩
      by_cases h2 : P1.length < 2
      · rw [decide_eq_true (by rw [lu]; omega : ((us.length : Int) < 2))]
        have hG4 := Same.tup s24 hG2
        refine iteT ⟨.ref g, rfl, 1, rfl, g, _, rfl, hG4, fun b5 H5 s5 h5 => ?_⟩
        rw [cut_upto (by decide), ← List.map_take] at h5
        have hG5 := Same.tup s5 hG4
        refine ⟨.ref g, rfl, 1, rfl, g, _, rfl, hG5, fun b6 H6 s6 h6 => ?_⟩
        rw [cut1, ← List.map_drop] at h6
        refine ⟨sz 2 (by decide), fun l nl => ?_⟩
        generalize h7 : upd H6 l _ = H7
        obtain ⟨s7, e7⟩ := new_of h7 nl
        refine ⟨_, _, l, _, [grp.take 1, grp.drop 1], (s5.trans s6).trans s7, e7, .cons (.tup (Same.tup (s6.trans s7) h5) (dpAll_strs _)) (.cons (.tup (Same.tup s7 h6) (dpAll_strs _)) .nil), ⟨Nat.le_refl _, g2, ?_, fun x hx => ?_⟩, rfl⟩
        · simp only [List.flatten_cons, List.flatten_nil, List.append_nil, List.length_append, List.length_take, List.length_drop]
          omega
        · simp only [List.flatten_cons, List.flatten_nil, List.append_nil, List.take_append_drop] at hx
          exact hx
      · rw [decide_eq_false (by rw [lu]; omega : ¬ ((us.length : Int) < 2))]
        refine iteF ⟨_, _, z, us, P1, Same.refl _, e4, d4, ⟨by omega, by omega, by rw [fl2, fe]; omega, fm⟩, rfl⟩
    · rintro σ' H5 ⟨y2', y4, l, us2, P2, s5, e5, d5, ok, rfl⟩
      refine ⟨.ref l, rfl, l, _, rfl, .inl ⟨.inl (.inl e5), fun w nw => ?_⟩⟩
      generalize h6 : upd H5 w _ = H6
      obtain ⟨s6, e6⟩ := new_of h6 nw
      have s26 := (s24.trans s5).trans s6
      exact q H6 (.ref w) P2 t2 (k2.trans (Kept.of s26)) (D2.same s26) (by omega) (.tup (.inl (.inl e6)) (dpAll_same s6 _ _ d5)) ok

end
end OC

set_option Elab.async false
set_option linter.all false
set_option maxRecDepth 100000
set_option maxHeartbeats 4000000
namespace OC
open PySem PySem.Spec PyProof.Rows L2
section
variable {P : Program} {w : World} {K : PySem.W.Frag} {mg : Str → Option Value} {base : Heap}
def sp_law (K : PySem.W.Frag) : Sp := fun vs H Q _ => ∃ (a : Addr) (ns : List Int), vs = [.ref a] ∧ SqL K H a (ns.map V.int) ∧ ns.length ≤ 63 ∧ ∀ H', Q (.bl true) H'
def okT (x : PyData) : Prop := Thg (10 ^ 29 + 1) 1900 50 x
/-- a parting's things -/
structure XOk (X : List PyData) : Prop where
  n : ∀ d ∈ X, nz (10 ^ 29) d = true
  w : wtAll X ≤ 534
  k : ∀ d ∈ X, d.depth ≤ 1
theorem nz_name {g : Nat} {x : Str} (h : NameOk x) : nz g (.str x) = true := by
  simp only [nz]
  refine List.all_eq_true.mpr fun c hc => decide_eq_true ?_
  have := (h.2.2 c hc).2
  omega
theorem nz_tx {g : Nat} {z : List Str} (h : ∀ x ∈ z, NameOk x) : nz g (txD z) = true := by
  unfold txD
  simp only [nz]
  refine nzAll_iff.mpr fun d hd => ?_
  obtain ⟨x, mx, rfl⟩ := List.mem_map.mp hd
  exact nz_name (h x mx)
theorem wt_names : ∀ {z : List Str}, (∀ x ∈ z, NameOk x) → wtAll (z.map PyData.str) ≤ 84 * z.length
  | [], _ => Nat.le_refl _
  | x :: z, h => by
    have h1 := wt_names (z := z) fun y hy => h y (List.mem_cons_of_mem _ hy)
    have h2 := (h x List.mem_cons_self).2.1
    rw [List.map_cons, wtAll, wt, List.length_cons]
    omega
theorem wt_txs : ∀ {P : List (List Str)}, (∀ x ∈ P.flatten, NameOk x) → wtAll (P.map txD) ≤ 84 * P.flatten.length + 5 * P.length
  | [], _ => Nat.le_refl _
  | z :: P, h => by
    have h1 := wt_txs (P := P) fun y hy => h y (by rw [List.flatten_cons]; exact List.mem_append_right _ hy)
    have h2 := wt_names (z := z) fun y hy => h y (by rw [List.flatten_cons]; exact List.mem_append_left _ hy)
    rw [List.map_cons, wtAll, List.flatten_cons, List.length_append, List.length_cons]
    unfold txD at h1 ⊢
    rw [wt]
    omega
theorem xok {grp : List Str} {P : List (List Str)} (h : PtsOk grp P) (nm : ∀ x ∈ grp, NameOk x) (l6 : grp.length ≤ 6) : XOk (P.map txD) := by
  have nmP : ∀ x ∈ P.flatten, NameOk x := fun x hx => nm x (h.nm x hx)
  refine ⟨fun d hd => ?_, ?_, fun d hd => ?_⟩
  · obtain ⟨z, mz, rfl⟩ := List.mem_map.mp hd
    exact nz_tx fun x hx => nmP x (List.mem_flatten.mpr ⟨z, mz, hx⟩)
  · have := wt_txs nmP
    have := h.few
    have := h.len
    omega
  · obtain ⟨z, mz, rfl⟩ := List.mem_map.mp hd
    exact tx_depth z
theorem okT_tuple {l : List PyData} (n : ∀ d ∈ l, nz (10 ^ 29) d = true) (w : wtAll l ≤ 1890) (k : ∀ d ∈ l, d.depth ≤ 5) : okT (.tuple l) :=
  (thg_tuple (g := 10 ^ 29) (B := 1893) (k := 5) n (by omega) k).mono (by omega) (by omega) (by omega)
theorem okT_list {l : List PyData} (n : ∀ d ∈ l, nz (10 ^ 29) d = true) (w : wtAll l ≤ 1890) (k : ∀ d ∈ l, d.depth ≤ 5) : okT (.list l) :=
  (thg_list (g := 10 ^ 29) (B := 1893) (k := 5) n (by omega) k).mono (by omega) (by omega) (by omega)
theorem okT_small {x' : PyData} (n : nz (10 ^ 29) x' = true) (w : wt x' ≤ 100) (k : x'.depth ≤ 5) : okT x' := ⟨nz_mono (by omega) _ n, by omega, by omega⟩
theorem okT_sn {l : List PyData} {y : PyData} (n : ∀ d ∈ l, nz (10 ^ 29) d = true) (w : wtAll l ≤ 1200) (k : ∀ d ∈ l, d.depth ≤ 5) (ny : nz (10 ^ 29) y = true) (wy : wt y ≤ 600) (ky : y.depth ≤ 5) : okT (.tuple (l ++ [y])) := by
  refine okT_tuple (fun d hd => (List.mem_append.mp hd).elim (n d) fun h => by rw [List.mem_singleton.mp h]; exact ny) ?_ (fun d hd => (List.mem_append.mp hd).elim (k d) fun h => by rw [List.mem_singleton.mp h]; exact ky)
  rw [wtAll_append, wtAll, wtAll]
  omega
theorem wtAll_one (x : PyData) : wtAll [x] = wt x + 2 := by rw [wtAll, wtAll]
theorem cut_tk (xs : List V) (hi : Option Int) : ∃ k, cutV xs none hi = xs.take k := by
  unfold cutV
  rw [HT.sIx_none, List.drop_zero]
  exact ⟨_, rfl⟩
theorem at_lastV {xs : List V} (h : 0 < xs.length) : atI xs (-1) = some (xs[xs.length - 1]'(by omega)) := by
  unfold atI ixN
  rw [if_neg (by decide), if_pos (by omega)]
  show xs[_]? = _
  rw [List.getElem?_eq_getElem (by omega)]
  congr 2
  omega
theorem repAll_strs {H : Hp} {bad : Addr → Prop} : ∀ z : List Str, RepAll K H bad (z.map V.str) (z.map PyData.str)
  | [] => .nil
  | x :: z => .cons (.str x) (repAll_strs z)
theorem rep_tx {H : Hp} {bad : Addr → Prop} {g : Addr} {z : List Str} (h : SqT K H g (z.map V.str)) : Rep K H bad (.ref g) (txD z) := .tup h (repAll_strs z)
theorem rep_pure_txs {H H' : Hp} {bad : Addr → Prop} (t : Tk H H') {P : List (List Str)} {us : List V} (r : RepAll K H bad us (P.map txD)) : RepAll K H' bad us (P.map txD) := repAll_noL _ _ (noL_txs _) (dpAll_tk t _ _ (noL_txs _) (rep_txs r))
theorem okT_ones {grp : List Str} (nm : ∀ x ∈ grp, NameOk x) (l6 : grp.length ≤ 6) : okT (.tuple ((grp.map PyData.str).map fun d => .tuple [d])) := by
  have e : ((grp.map PyData.str).map fun d => PyData.tuple [d]) = (grp.map fun x => [x]).map txD := by
    rw [List.map_map, List.map_map]
    rfl
  have fl : ∀ l : List Str, (l.map fun x => [x]).flatten = l := fun l => by
    induction l with
    | nil => rfl
    | cons x l ih => rw [List.map_cons, List.flatten_cons, ih]; rfl
  rw [e]
  have w1 := wt_txs (P := grp.map fun x => [x]) (by rw [fl]; exact nm)
  rw [fl, List.length_map] at w1
  refine okT_tuple (fun d hd => ?_) (by omega) (fun d hd => ?_)
  · obtain ⟨z, mz, rfl⟩ := List.mem_map.mp hd
    obtain ⟨x, mx, rfl⟩ := List.mem_map.mp mz
    exact nz_tx fun y hy => by rw [List.mem_singleton.mp hy]; exact nm x mx
  · obtain ⟨z, mz, rfl⟩ := List.mem_map.mp hd
    exact Nat.le_trans (tx_depth z) (by decide)
theorem okT_lists {P : List (List Str)} (x : XOk (P.map txD)) : okT (.tuple ((P.map txD).map fun d => .list (itemsD d))) := by
  have wl : ∀ Q : List (List Str), wtAll ((Q.map txD).map fun d => PyData.list (itemsD d)) = wtAll (Q.map txD) := fun Q => by
    induction Q with
    | nil => rfl
    | cons z Q ih => rw [List.map_cons, List.map_cons, wtAll, wtAll, ih]; rfl
  have xw := x.w
  refine okT_tuple (fun d hd => ?_) (by rw [wl]; omega) (fun d hd => ?_)
  · obtain ⟨y, my, rfl⟩ := List.mem_map.mp hd
    obtain ⟨z, mz, rfl⟩ := List.mem_map.mp my
    have := x.n _ my
    unfold txD at this ⊢
    simp only [nz, itemsD] at this ⊢
    exact this
  · obtain ⟨y, my, rfl⟩ := List.mem_map.mp hd
    obtain ⟨z, mz, rfl⟩ := List.mem_map.mp my
    exact Nat.le_trans (show (PyData.list (z.map PyData.str)).depth ≤ 1 from by have := x.k _ my; unfold txD at this; simp only [PyData.depth] at this ⊢; exact this) (by decide)
theorem okA {ds : List PyData} {x : PyData} (h : ∀ y ∈ ds, okT y) (hx : okT x) : ∀ y ∈ ds ++ [x], okT y := fun y hy => (List.mem_append.mp hy).elim (h y) fun z => by rw [List.mem_singleton.mp z]; exact hx
theorem rpA {H H' : Hp} {bad : Addr → Prop} {vs : List V} {ds : List PyData} {v : V} {d : PyData} (s : Same H H') (R : RepAll K H bad vs ds) (r : Rep K H' bad v d) : RepAll K H' bad (vs ++ [v]) (ds ++ [d]) := repAll_append (repAll_stays (Stays.of s) _ _ R) (.cons r .nil)
theorem wt_tx6 {grp : List Str} (nm : ∀ x ∈ grp, NameOk x) (l6 : grp.length ≤ 6) : wt (txD grp) ≤ 507 := by
  have := wt_names nm
  unfold txD
  rw [wt]
  omega
theorem stays_mut {bad : Addr → Prop} {H : Hp} {D : Addr} {xs ys : List V} (eD : H D = some (.lst xs)) (b : bad D) : Stays bad H (upd H D (.lst ys)) :=
  ⟨(Tk.refl _).mut eD, fun a kvs h => by
    rw [upd_ne (fun z => by rw [z, eD] at h; cases h)]
    exact h, fun a zs h nb => by
    rw [upd_ne (fun z => nb (by rw [z]; exact b))]
    exact h⟩
theorem ok_law (T : Top K mg) (hsys : HasSys base) {f : Addr} {fd : FuncData} (F : Fun K "law" "law" s_law f fd) : FnG P w K mg base CX0 6 f fd ["_law_script"] (sp_law K) := by
  have O__law_draws := ok__law_draws (P := P) (w := w) (base := base) T
  have O__law_names := ok__law_names (P := P) (w := w) (base := base) T
  have O__law_drawn := ok__law_drawn (P := P) (w := w) (base := base) T
  have O__law_next := ok__law_next (P := P) (w := w) (base := base) T
  have O__law_spoilt := spoil_ok (P := P) (w := w) (base := base) T 2
  have O__law_due := ok__law_due (P := P) (w := w) (base := base) T
  have O_is_parting := ok_is_parting (P := P) (w := w) (base := base) T
  refine funG F sc_law (fun vs H Q E h => ?_) (fun cdv A outer s H vs Q E hr hgd h => ?_)
  · obtain ⟨a, ns, rfl, _⟩ := h
    rfl
  · obtain ⟨a, ns, rfl, hS, hl, q⟩ := h
    refine ⟨_, ((pss_cons (ps_set (i := 1) sc_law.nd rfl (.inr rfl) (pe_callO O__law_draws (hr.mono (by omega)) (by rfl) (pa_cons (pv 0) pa_nil)))
      (pss_cons (ps_for PassesOwn.never (by rfl) (pi_range1 (by rfl) T.b_range (pa_cons pe_int pa_nil)) (pg_name (i := 2) sc_law.nd rfl (.inl rfl))
        (pss_cons (ps_set (i := 3) sc_law.nd rfl (.inl rfl) (pe_callTy call_tuple_of (by rfl) T.b_tuple (by decide +kernel) (pa_cons (pe_callO O__law_names (hr.mono (by omega)) (by rfl) (pa_cons (pv 1) (pa_cons (pe_op op_add pe_int (pe_callO O__law_next (hr.mono (by omega)) (by rfl) (pa_cons (pv 1) (pa_cons pe_int pa_nil)))) pa_nil))) pa_nil)))
        (pss_cons (ps_asg (pe_tup (pa_cons (pe_callO O__law_drawn (hr.mono (by omega)) (by rfl) (pa_cons (pv 1) (pa_cons (pv 3) pa_nil))) (pa_cons (pe_callO O__law_drawn (hr.mono (by omega)) (by rfl) (pa_cons (pv 1) (pa_cons (pv 3) pa_nil))) pa_nil))) (pg_tup (by rfl) (pgs_cons (pg_name (i := 4) sc_law.nd rfl (.inr rfl)) (pgs_cons (pg_name (i := 5) sc_law.nd rfl (.inl rfl)) pgs_nil))))
        (pss_cons (ps_set (i := 6) sc_law.nd rfl (.inl rfl) (pe_lst (pa_cons (pv 4) (pa_cons (pv 5) (pa_cons (pe_revT (pv 4)) (pa_cons (pe_op op_catB (pv 4) (pv 5)) (pa_cons (pe_tup (pa_cons (pv 3) pa_nil)) (pa_cons (pv 3) (pa_cons (pe_callTy call_list_of (by rfl) T.b_list (by decide +kernel) (pa_cons (pv 4) pa_nil)) (pa_cons (pe_slice sl_tupB (pv 4) (po_some pe_int) po_none) (pa_cons (pe_op op_catB (pv 4) (pe_tup (pa_cons (pe_tup (pa_cons pe_str pa_nil)) pa_nil))) pa_nil)))))))))))
        (pss_cons (ps_expr (pe_bm PySem.F.plainAttrs_list PySem.F.slot_list_append PySem.F.type_list_append mt_append (pv 6) (pa_cons (pe_tup (pa_cons (pe_tup pa_nil) (pa_cons (pv 3) pa_nil))) pa_nil)))
        (pss_cons (ps_set (i := 6) sc_law.nd rfl (.inl rfl) (pe_op op_cat (pv 6) (pe_lst (pa_cons (pe_op op_catB (pe_slice sl_tupB (pv 4) po_none (po_some (pe_un un_neg pe_int))) (pe_tup (pa_cons (pe_revT (pe_ix ix_tup (pv 4) (pe_un un_neg pe_int) (fun _ _ => rfl))) pa_nil))) (pa_cons (pe_op op_catB (pv 4) (pe_slice sl_tupB (pv 4) po_none (po_some pe_int))) (pa_cons (pe_callTy call_tuple_of (by rfl) T.b_tuple (by decide +kernel) (pa_cons (pe_lc (own := [("_law_name", 7)]) (g := gName 7) (by rfl) sc_law.nd (pi_tup (pv 3)) (blkOk_by (own := [("_law_name", 7)]) (N := N_law) (sc := defScope s_law) (by decide +kernel)) (fun _ _ _ _ _ => (pg_name (i := 7) sc_law.nd rfl (.inl rfl))) (fun _ _ _ _ _ => pts_nil) (fun _ _ _ _ _ => (pe_tup (pa_cons (pv 7) pa_nil)))) pa_nil)) (pa_cons (pe_op op_catB (pv 4) (pe_tup (pa_cons (pe_tup pa_nil) pa_nil))) pa_nil)))))))
        (pss_cons (ps_set (i := 6) sc_law.nd rfl (.inl rfl) (pe_op op_cat (pv 6) (pe_lst (pa_cons (pe_callTy call_tuple_of (by rfl) T.b_tuple (by decide +kernel) (pa_cons (pe_lc (own := [("_law_part", 8)]) (g := gName 8) (by rfl) sc_law.nd (pi_tup (pv 4)) (blkOk_by (own := [("_law_part", 8)]) (N := N_law) (sc := defScope s_law) (by decide +kernel)) (fun _ _ _ _ _ => (pg_name (i := 8) sc_law.nd rfl (.inl rfl))) (fun _ _ _ _ _ => pts_nil) (fun _ _ _ _ _ => (pe_callTy (show CallR _ (.type "list") (rListQ K) from call_list_of) (by rfl) T.b_list (by decide +kernel) (pa_cons (pv 8) pa_nil)))) pa_nil)) (pa_cons (pe_tup (pa_cons (pe_slice sl_tupB (pv 3) po_none (po_some pe_int)) (pa_cons (pv 3) pa_nil))) (pa_cons pe_non (pa_cons (pe_tup pa_nil) (pa_cons pe_int (pa_cons pe_str (pa_cons (pe_tup (pa_cons pe_non (pa_cons pe_non pa_nil))) pa_nil))))))))))
        (pss_cons (ps_set (i := 6) sc_law.nd rfl (.inl rfl) (pe_op op_cat (pv 6) (pe_lc (own := [("_law_k", 9)]) (g := gName 9) (by rfl) sc_law.nd (pi_range1 (by rfl) T.b_range (pa_cons pe_int pa_nil)) (blkOk_by (own := [("_law_k", 9)]) (N := N_law) (sc := defScope s_law) (by decide +kernel)) (fun _ _ _ _ _ => (pg_name (i := 9) sc_law.nd rfl (.inl rfl))) (fun _ _ _ _ _ => pts_nil) (fun _ _ _ _ _ => (pe_callO O__law_spoilt (hr.mono (by omega)) (by rfl) (pa_cons (pv 1) (pa_cons (pv 4) pa_nil)))))))
        (pss_one (ps_for PassesOwn.never (by rfl) (pi_list (pv 6)) (pg_name (i := 10) sc_law.nd rfl (.inl rfl))
          (pss_cons (ps_set (i := 11) sc_law.nd rfl (.inl rfl) (pe_callB (call_reprS NB hsys hr hgd) (by rfl) T.b_repr (by decide +kernel) (pa_cons (pv 10) pa_nil)))
          (pss_cons (ps_set (i := 12) sc_law.nd rfl (.inl rfl) (pe_callO O_is_parting (hr.mono (by omega)) (by rfl) (pa_cons (pv 3) (pa_cons (pv 10) pa_nil))))
          (pss_one (ps_if (PW.pt (pw_or (pt_not (pt_val (pe_callB call_isi (by rfl) T.b_isinstance (by decide +kernel) (pa_cons (pv 12) (pa_cons (pe_bltn (v := .ty "bool") (u := .type "bool") (by rfl) T.b_bool (by decide +kernel) rfl) pa_nil))))) (pw_or (pt_cmpR op_ne (pv 12) (pe_callO O__law_due (hr.mono (by omega)) (by rfl) (pa_cons (pv 3) (pa_cons (pv 10) pa_nil))) (nomark _)) (pw_or1 (pt_cmpR op_ne (pe_callB (call_reprS NB hsys hr hgd) (by rfl) T.b_repr (by decide +kernel) (pa_cons (pv 10) pa_nil)) (pv 11) (nomark _))))))
            (pss_one (ps_ret pe_bl))
            pss_nil))))))))))))))
      (pss_one (ps_ret pe_bl))))), ?_⟩
    refine ⟨.ref a, rfl, a, ns, rfl, hS, hl, fun H1 d c e s1 D1 => ?_⟩
    refine ⟨3, rfl, by decide, by decide, for_range (lo := 0) (n := 3) (fun i σ H' => ∃ t' : Int, Drw H' d c e t' ∧ t' ≤ 500 * i ∧ ∃ y2 y3 y4 y5 y6 y10 y11 y12 : Option V, σ = [some (.ref a), some (.ref d), y2, y3, y4, y5, y6, none, none, none, y10, y11, y12]) ⟨0, D1, by decide, none, none, none, none, none, none, none, none, rfl⟩ (fun i σ H2 hi hW => ?_) (fun σ H2 hW => ?_)⟩
    · obtain ⟨t2, D2, ht2, y2, y3, y4, y5, y6, y10, y11, y12, rfl⟩ := hW
      have sz : ∀ n : Nat, n ≤ 1000 → n ≤ sizeLine := fun n h => sz1000 h
      refine ⟨.ref d, rfl, .ref d, rfl, d, c, e, t2, 5, rfl, D2, by omega, by decide, by decide, fun H3 r k3 D3 r0 r5 => ?_⟩
      obtain ⟨m, hm⟩ : ∃ m : Nat, r = (m : Int) := ⟨r.toNat, by omega⟩
      subst hm
      refine ⟨2, (m : Int), rfl, rfl, d, c, e, t2 + 1, 2 + m, by show [V.ref d, V.int (2 + (m : Int))] = _; rw [show ((2 : Int) + (m : Int)) = ((2 + m : Nat) : Int) by omega], D3, by omega, by omega, fun H4 la grp t4 k4 D4 ht4 nla ela lg srt nd nm => ?_⟩
      have l6 : grp.length ≤ 6 := by omega
      refine ⟨la, _, rfl, .inl ⟨.inl (.inl ela), fun g ng => ?_⟩⟩
      generalize h5 : upd H4 g _ = H5
      obtain ⟨s5, e5⟩ := new_of h5 ng
      have D5 := D4.same s5
      have hG5 : SqT K H5 g (grp.map V.str) := .inl (.inl e5)
      refine ⟨.ref d, rfl, .ref g, rfl, d, c, e, g, t4, grp, rfl, D5, by omega, hG5, by omega, by omega, fun H6 v1 P1 t6 k6 D6 ht6 dp1 ok1 => ?_⟩
      have hG6 := D5.tup k6 hG5
      refine ⟨.ref d, rfl, .ref g, rfl, d, c, e, g, t6, grp, rfl, D6, by omega, hG6, by omega, by omega, fun H7 v2 P2 t7 k7 D7 ht7 dp2 ok2 => ?_⟩
      have hG7 := D6.tup k7 hG6
      obtain ⟨a1, us1, rfl, hA1, dU1⟩ := dp_pt dp1
      obtain ⟨a2, us2, rfl, hA2, dU2⟩ := dp_pt dp2
      have hA1 := D6.tup k7 hA1
      have dU1 := dpAll_tk (D6.tk k7) _ _ (noL_txs _) dU1
      have x1 := xok ok1 nm l6
      have x2 := xok ok2 nm l6
      have two1 := ok1.two
      have lp1 := ok1.len
      have lp2 := ok2.len
      have lu1 := dpAll_len dU1
      have lu2 := dpAll_len dU2
      rw [List.length_map] at lu1 lu2
      have r1 : RepAll K H7 (Bd3 d c e) us1 (P1.map txD) := repAll_noL _ _ (noL_txs _) dU1
      have r2 : RepAll K H7 (Bd3 d c e) us2 (P2.map txD) := repAll_noL _ _ (noL_txs _) dU2
      have lX1 : (P1.map txD).length = P1.length := List.length_map ..
      have eX1 : ptD P1 = .tuple (P1.map txD) := rfl
      have eX2 : ptD P2 = .tuple (P2.map txD) := rfl
      have x1d : ∀ d ∈ P1.map txD, d.depth ≤ 5 := fun d hd => Nat.le_trans (x1.k d hd) (by decide)
      have x2d : ∀ d ∈ P2.map txD, d.depth ≤ 5 := fun d hd => Nat.le_trans (x2.k d hd) (by decide)
      have xw1 := x1.w
      have xw2 := x2.w
      have lists : ∃ p : PyData, p = .tuple (P1.map fun z => .list (z.map PyData.str)) := ⟨_, rfl⟩
      have gw := wt_tx6 nm l6
      have gn : nz (10 ^ 29) (txD grp) = true := nz_tx nm
      have gd : (txD grp).depth ≤ 1 := tx_depth grp
      refine ⟨sz 2 (by decide), fun T0 nT => ?_⟩
      generalize h8 : upd H7 T0 _ = H8
      obtain ⟨s8, e8⟩ := new_of h8 nT
      refine ⟨T0, _, rfl, .inl (.inl e8), rfl, .ref a1, [.ref a2], rfl, .ref a2, [], rfl, rfl, ?_⟩
      have D := D7.same s8
      have hG := Same.tup s8 hG7
      have hA1 := Same.tup s8 hA1
      have hA2 := Same.tup s8 hA2
      have r1 := repAll_stays (Stays.of s8) _ _ r1
      have r2 := repAll_stays (Stays.of s8) _ _ r2
      have R : RepAll K H8 (Bd3 d c e) [.ref a1, .ref a2] [.tuple (P1.map txD), .tuple (P2.map txD)] := .cons (.tup hA1 r1) (.cons (.tup hA2 r2) .nil)
      have O : ∀ x ∈ [PyData.tuple (P1.map txD), .tuple (P2.map txD)], okT x := fun x hx => by
        simp only [List.mem_cons, List.not_mem_nil, or_false] at hx
        rcases hx with rfl | rfl
        · exact okT_tuple x1.n (by omega) x1d
        · exact okT_tuple x2.n (by omega) x2d
      -- one[::-1]
      refine ⟨.ref a1, rfl, .ref a2, rfl, .ref a1, rfl, a1, us1, rfl, hA1, fun b1 n1 => ?_⟩
      generalize h9 : upd H8 b1 _ = H9
      obtain ⟨s, e9⟩ := new_of h9 n1
      have D := D.same s
      have hG := Same.tup s hG
      have hA1 := Same.tup s hA1
      have hA2 := Same.tup s hA2
      have r1 := repAll_stays (Stays.of s) _ _ r1
      have r2 := repAll_stays (Stays.of s) _ _ r2
      have R := rpA s R (.tup (.inl (.inl e9)) (repAll_rev r1))
      have O := okA O (okT_tuple (fun d hd => x1.n d (List.mem_reverse.mp hd)) (by rw [wtAll_reverse]; omega) (fun d hd => x1d d (List.mem_reverse.mp hd)))
      -- one + other
      refine ⟨.ref a1, rfl, .ref a2, rfl, a1, a2, _, _, rfl, rfl, hA1, hA2, sz1000 (by omega), fun b2 H10 s h10 => ?_⟩
      have D := D.same s
      have hG := Same.tup s hG
      have hA1 := Same.tup s hA1
      have r1 := repAll_stays (Stays.of s) _ _ r1
      have r2 := repAll_stays (Stays.of s) _ _ r2
      have R := rpA s R (.tup h10 (repAll_append r1 r2))
      have O := okA O (okT_tuple (fun d hd => (List.mem_append.mp hd).elim (x1.n d) (x2.n d)) (by rw [wtAll_append]; omega) (fun d hd => (List.mem_append.mp hd).elim (x1d d) (x2d d)))
      -- (group,), group
      refine ⟨.ref g, rfl, sz 1 (by decide), fun b3 n3 => ?_⟩
      generalize h11 : upd H10 b3 _ = H11
      obtain ⟨s, e11⟩ := new_of h11 n3
      have D := D.same s
      have hG := Same.tup s hG
      have hA1 := Same.tup s hA1
      have r1 := repAll_stays (Stays.of s) _ _ r1
      have rG : Rep K H11 (Bd3 d c e) (.ref g) (txD grp) := rep_tx hG
      have R := rpA s R (.tup (.inl (.inl e11)) (.cons rG .nil))
      have O := okA O (okT_tuple (fun d hd => by rw [List.mem_singleton.mp hd]; exact gn) (by rw [wtAll_one]; omega) (fun d hd => by rw [List.mem_singleton.mp hd]; omega))
      have R := rpA (Same.refl _) R rG
      have O := okA O ⟨nz_mono (by omega) _ gn, by omega, by omega⟩
      -- list(one)
      refine ⟨.ref g, rfl, .ref a1, rfl, a1, _, rfl, .inr hA1, fun b4 n4 => ?_⟩
      have nb4 := D.fresh n4
      generalize h12 : upd H11 b4 _ = H12
      obtain ⟨s, e12⟩ := new_of h12 n4
      have D := D.same s
      have hG := Same.tup s hG
      have hA1 := Same.tup s hA1
      have r1 := repAll_stays (Stays.of s) _ _ r1
      have R := rpA s R (.lst e12 nb4 r1)
      have O := okA O (okT_list x1.n (by omega) x1d)
      -- one[1:]
      refine ⟨.ref a1, rfl, 1, rfl, a1, _, rfl, hA1, fun b5 H13 s h13 => ?_⟩
      rw [cut1] at h13
      have D := D.same s
      have hG := Same.tup s hG
      have hA1 := Same.tup s hA1
      have r1 := repAll_stays (Stays.of s) _ _ r1
      have R := rpA s R (.tup h13 (repAll_drop 1 r1))
      have wd1 := wtAll_take (P1.map txD) 1
      have O := okA O (okT_tuple (l := (P1.map txD).drop 1) (fun d hd => x1.n d (List.mem_of_mem_drop hd)) (by omega) (fun d hd => x1d d (List.mem_of_mem_drop hd)))
      -- one + (('zzzzzzzzz',),)
      refine ⟨.ref a1, rfl, sz 1 (by decide), fun b6 n6 => ?_⟩
      generalize h14 : upd H13 b6 _ = H14
      obtain ⟨s14, e14⟩ := new_of h14 n6
      refine ⟨sz 1 (by decide), fun b7 n7 => ?_⟩
      generalize h15 : upd H14 b7 _ = H15
      obtain ⟨s15, e15⟩ := new_of h15 n7
      refine ⟨a1, b7, _, _, rfl, rfl, Same.tup (s14.trans s15) hA1, .inl (.inl e15), sz1000 (by simp only [List.length_cons, List.length_nil]; omega), fun b8 H16 s16 h16 => ?_⟩
      have s := (s14.trans s15).trans s16
      have D := D.same s
      have hG := Same.tup s hG
      have hA1 := Same.tup s hA1
      have r1 := repAll_stays (Stays.of s) _ _ r1
      have R := rpA s R (.tup h16 (repAll_append r1 (.cons (.tup (.inl (.inl ((s15.trans s16) _ _ e14))) (.cons (.str _) .nil)) .nil)))
      have O := okA O (okT_sn (y := .tuple [.str "zzzzzzzzz"]) x1.n (by omega) x1d (by decide +kernel) (by decide +kernel) (by decide +kernel))
      -- the list
      refine ⟨sz 9 (by decide), fun L nL => ?_⟩
      dsimp only
      have R := repAll_fresh nL _ _ R
      generalize h17 : upd H16 L _ = H17
      obtain ⟨s, e17⟩ := new_of h17 nL
      have nbL := D.fresh nL
      have D := D.same s
      have hG := Same.tup s hG
      have hA1 := Same.tup s hA1
      have r1 := repAll_stays (Stays.of s) _ _ r1
      have R := repAll_stays (Stays.of s) _ _ R
      have R : RepAll K H17 (fun a => Bd3 d c e a ∨ a = L) [.ref a1, .ref a2, .ref b1, .ref b2, .ref b3, .ref g, .ref b4, .ref b5, .ref b8] _ := R
      have e17 : H17 L = some (.lst [.ref a1, .ref a2, .ref b1, .ref b2, .ref b3, .ref g, .ref b4, .ref b5, .ref b8]) := e17
      have lVS : ([.ref a1, .ref a2, .ref b1, .ref b2, .ref b3, .ref g, .ref b4, .ref b5, .ref b8] : List V).length = 9 := rfl
      generalize ([.ref a1, .ref a2, .ref b1, .ref b2, .ref b3, .ref g, .ref b4, .ref b5, .ref b8] : List V) = VS at R e17 lVS
      clear h9 h10 h11 h12 h13 h14 h15 h16 e9 e11 e12 e14 e15 s14 s15 s16 h17
      -- append
      refine ⟨.ref L, rfl, .inl ⟨rfl, _, .inl (.inl e17)⟩, sz 0 (by decide), fun c1 nc1 => ?_⟩
      generalize h18 : upd H17 c1 _ = H18
      obtain ⟨s18, e18⟩ := new_of h18 nc1
      refine ⟨.ref g, rfl, sz 2 (by decide), fun c2 nc2 => ?_⟩
      generalize h19 : upd H18 c2 _ = H19
      obtain ⟨s19, e19⟩ := new_of h19 nc2
      have s := s18.trans s19
      have D := D.same s
      have hG := Same.tup s hG
      have hA1 := Same.tup s hA1
      have r1 := repAll_stays (Stays.of s) _ _ r1
      have e20 := s _ _ e17
      have R := rpA s R (.tup (.inl (.inl e19)) (.cons (.tup (.inl (.inl (s19 _ _ e18))) .nil) (.cons (rep_tx hG) .nil)))
      have O := okA O (okT_sn (l := [.tuple []]) (y := txD grp) (by decide +kernel) (by decide +kernel) (by decide +kernel) gn (by omega) (by omega))
      refine ⟨L, _, .ref c2, rfl, rfl, e20, by rw [lVS]; exact small1000 (by decide), ?_⟩
      have sm := stays_mut (bad := fun a => Bd3 d c e a ∨ a = L) (ys := VS ++ [.ref c2]) e20 (.inr rfl)
      have R := repAll_weak (b2 := Bd3 d c e) (fun a h => .inl h) _ _ (repAll_stays sm _ _ R)
      have D := D.mut (o := .lst (VS ++ [.ref c2])) nbL
      have hG := sm.t _ _ _ hG
      have hA1 := sm.t _ _ _ hA1
      have r1 := rep_pure_txs sm.t r1
      have eL : (upd H19 L (.lst (VS ++ [.ref c2]))) L = some (.lst (VS ++ [.ref c2])) := upd_same
      have lVS : (VS ++ [V.ref c2]).length = 10 := by rw [List.length_append, lVS]; rfl
      generalize upd H19 L (.lst (VS ++ [.ref c2])) = H20 at R D hG hA1 r1 eL
      generalize VS ++ [V.ref c2] = VS at R eL lVS
      clear sm e17 e20 h18 h19 e18 e19 s18 s19
      -- one[:-1] + (one[-1][::-1],)
      have hl := at_lastV (xs := us1) (by omega)
      obtain ⟨dl, _, ml, rl⟩ := repAll_get r1 (List.getElem?_eq_getElem (show us1.length - 1 < us1.length by omega))
      generalize us1[us1.length - 1]'(by omega) = vl at hl rl
      obtain ⟨zl, mzl, rfl⟩ := List.mem_map.mp ml
      obtain ⟨al, yl, rfl, hAl, ryl⟩ := rep_tup rl
      obtain ⟨kc, ekc⟩ := cut_tk us1 (some (-1))
      refine ⟨.ref L, rfl, .ref a1, rfl, 1, rfl, -1, rfl, a1, _, rfl, hA1, fun c3 H21 s21 h21 => ?_⟩
      rw [ekc] at h21
      refine ⟨.ref a1, rfl, 1, rfl, a1, us1, -1, .ref al, rfl, rfl, Same.tup s21 hA1, hl, al, yl, rfl, Same.tup s21 hAl, fun c4 n4 => ?_⟩
      generalize h22 : upd H21 c4 _ = H22
      obtain ⟨s22, e22⟩ := new_of h22 n4
      refine ⟨sz 1 (by decide), fun c5 n5 => ?_⟩
      generalize h23 : upd H22 c5 _ = H23
      obtain ⟨s23, e23⟩ := new_of h23 n5
      refine ⟨c3, c5, _, _, rfl, rfl, Same.tup (s22.trans s23) h21, .inl (.inl e23), sz1000 (by simp only [List.length_take, List.length_cons, List.length_nil]; omega), fun c6 H24 s24 h24 => ?_⟩
      have s := ((s21.trans s22).trans s23).trans s24
      have D := D.same s
      have hG := Same.tup s hG
      have hA1 := Same.tup s hA1
      have r1 := repAll_stays (Stays.of s) _ _ r1
      have eL := s _ _ eL
      have ryl := repAll_stays (Stays.of s) _ _ ryl
      have nmz : ∀ x ∈ zl, NameOk x := fun x hx => nm x (ok1.nm x (List.mem_flatten.mpr ⟨zl, mzl, hx⟩))
      have lzl : zl.length ≤ P1.flatten.length := (List.sublist_flatten_of_mem mzl).length_le
      have few1 := ok1.few
      have wz := wt_tx6 (grp := zl.reverse) (fun x hx => nmz x (List.mem_reverse.mp hx)) (by rw [List.length_reverse]; omega)
      have nzz : nz (10 ^ 29) (txD zl.reverse) = true := nz_tx fun x hx => nmz x (List.mem_reverse.mp hx)
      have dz := tx_depth zl.reverse
      have wkc := wtAll_take (P1.map txD) kc
      have ryl := repAll_rev ryl
      rw [← List.map_reverse] at ryl
      have R := rpA (d := .tuple ((P1.map txD).take kc ++ [txD zl.reverse])) s R (.tup h24 (repAll_append (repAll_take kc r1) (.cons (.tup (.inl (.inl ((s23.trans s24) _ _ e22))) ryl) .nil)))
      have O := okA O (okT_sn (l := (P1.map txD).take kc) (y := txD zl.reverse) (fun d hd => x1.n d (List.mem_of_mem_take hd)) (by omega) (fun d hd => x1d d (List.mem_of_mem_take hd)) nzz (by omega) (by omega))
      clear h21 h22 h23 h24 s21 s22 s23 s24 e22 e23
      -- one + one[:1]
      refine ⟨.ref a1, rfl, .ref a1, rfl, 1, rfl, a1, _, rfl, hA1, fun c7 H25 s25 h25 => ?_⟩
      rw [cut_upto (by decide)] at h25
      refine ⟨a1, c7, _, _, rfl, rfl, Same.tup s25 hA1, h25, sz1000 (by simp only [List.length_take]; omega), fun c8 H26 s26 h26 => ?_⟩
      have s := s25.trans s26
      have D := D.same s
      have hG := Same.tup s hG
      have hA1 := Same.tup s hA1
      have r1 := repAll_stays (Stays.of s) _ _ r1
      have eL := s _ _ eL
      have R := rpA s R (.tup h26 (repAll_append r1 (repAll_take _ r1)))
      have O := okA O (okT_tuple (l := P1.map txD ++ (P1.map txD).take 1) (fun d hd => (List.mem_append.mp hd).elim (x1.n d) fun h => x1.n d (List.mem_of_mem_take h)) (by rw [wtAll_append]; omega) (fun d hd => (List.mem_append.mp hd).elim (x1d d) fun h => x1d d (List.mem_of_mem_take h)))
      clear h25 h26 s25 s26
      -- tuple([(name,) for name in group])
      refine ⟨.ref g, rfl, g, rfl, ⟨_, hG⟩, lc_mapS (K := K) (bad := Bd3 d c e) (fun d => .tuple [d]) (walk_tup (K := K) (a := g) (xs := grp.map V.str)) (fun H' s => Same.tup s hG) (repAll_strs grp) (by rw [List.length_map]; omega) (fun _ => rfl) (fun v x H' Q' bad' mx rx sx hQ => ?_) (fun c9 H27 ws s27 n9 e27 rws => ?_)⟩
      · refine ⟨v, rfl, sz 1 (by decide), fun u nu => ?_⟩
        generalize hu : upd H' u _ = Hu
        obtain ⟨su, eu⟩ := new_of hu nu
        exact hQ _ Hu su (.tup (.inl (.inl eu)) (.cons (rep_stays (Stays.of su) _ _ rx) .nil))
      refine ⟨c9, _, rfl, .inl ⟨.inl (.inl e27), fun c10 n10 => ?_⟩⟩
      generalize h28 : upd H27 c10 _ = H28
      obtain ⟨s28, e28⟩ := new_of h28 n10
      have s := s27.trans s28
      have D := D.same s
      have hG := Same.tup s hG
      have hA1 := Same.tup s hA1
      have r1 := repAll_stays (Stays.of s) _ _ r1
      have eL := s _ _ eL
      have R := rpA s R (.tup (.inl (.inl e28)) (repAll_stays (Stays.of s28) _ _ rws))
      have O := okA O (okT_ones nm l6)
      clear h28 s27 s28 e28 e27 rws
      -- one + ((),)
      refine ⟨.ref a1, rfl, sz 0 (by decide), fun c11 n11 => ?_⟩
      generalize h29 : upd H28 c11 _ = H29
      obtain ⟨s29, e29⟩ := new_of h29 n11
      refine ⟨sz 1 (by decide), fun c12 n12 => ?_⟩
      generalize h30 : upd H29 c12 _ = H30
      obtain ⟨s30, e30⟩ := new_of h30 n12
      refine ⟨a1, c12, _, _, rfl, rfl, Same.tup (s29.trans s30) hA1, .inl (.inl e30), sz1000 (by simp only [List.length_cons, List.length_nil]; omega), fun c13 H31 s31 h31 => ?_⟩
      have s := (s29.trans s30).trans s31
      have D := D.same s
      have hG := Same.tup s hG
      have hA1 := Same.tup s hA1
      have r1 := repAll_stays (Stays.of s) _ _ r1
      have eL := s _ _ eL
      have R := rpA s R (.tup h31 (repAll_append r1 (.cons (.tup (.inl (.inl ((s30.trans s31) _ _ e29))) .nil) .nil)))
      have O := okA O (okT_sn (y := .tuple []) x1.n (by omega) x1d (by decide +kernel) (by decide +kernel) (by decide +kernel))
      clear h29 h30 h31 s29 s30 s31 e29 e30
      -- cat
      refine ⟨sz 4 (by decide), fun M nM => ?_⟩
      dsimp only
      generalize h32 : upd H31 M _ = H32
      obtain ⟨s32, e32⟩ := new_of h32 nM
      refine ⟨L, M, _, _, rfl, rfl, s32 _ _ eL, e32, sz1000 (by simp only [List.length_cons, List.length_nil]; omega), fun L2 nL2 => ?_⟩
      generalize h33 : upd H32 L2 _ = H33
      obtain ⟨s33, e33⟩ := new_of h33 nL2
      have s := s32.trans s33
      have D := D.same s
      have hG := Same.tup s hG
      have hA1 := Same.tup s hA1
      have r1 := repAll_stays (Stays.of s) _ _ r1
      have R := repAll_stays (Stays.of s) _ _ R
      rw [show (((VS ++ [V.ref c6]) ++ [V.ref c8]) ++ [V.ref c10]) ++ [V.ref c13] = VS ++ [.ref c6, .ref c8, .ref c10, .ref c13] by simp] at R
      have lVS : (VS ++ [V.ref c6, .ref c8, .ref c10, .ref c13]).length = 14 := by rw [List.length_append, lVS]; rfl
      have e33 : H33 L2 = some (.lst (VS ++ [.ref c6, .ref c8, .ref c10, .ref c13])) := e33
      generalize VS ++ [V.ref c6, .ref c8, .ref c10, .ref c13] = VS at R e33 lVS
      clear h32 h33 s32 s33 e32
      -- tuple([list(part) for part in one])
      refine ⟨.ref L2, rfl, .ref a1, rfl, a1, rfl, ⟨_, hA1⟩, lc_mapR (K := K) (fun d => .list (itemsD d)) (walk_tup (K := K) (a := a1) (xs := us1)) (fun H' s => Same.tup s hA1) (repAll_nb r1) (by omega) (fun _ => rfl) (fun v x H' Q' mx rx sx hQ => ?_) (fun f1 H34 ws s34 n34 e34 rws => ?_)⟩
      · obtain ⟨z, mz, rfl⟩ := List.mem_map.mp mx
        obtain ⟨az, yz, rfl, hz, ryz⟩ := rep_tup rx
        have ryz := rep_strsV ryz
        subst ryz
        refine ⟨.ref az, rfl, az, _, rfl, .inr hz, fun u nu => ?_⟩
        generalize hu : upd H' u _ = Hu
        obtain ⟨su, eu⟩ := new_of hu nu
        exact hQ _ Hu su (.lst eu (fun z => z nu) (repAll_strs _))
      have rws := repAll_weak (b2 := Bd3 d c e) (fun a h => .inl (D.some h)) _ _ rws
      refine ⟨f1, _, rfl, .inl ⟨.inl (.inl e34), fun f2 n35 => ?_⟩⟩
      generalize h35 : upd H34 f2 _ = H35
      obtain ⟨s35, e35⟩ := new_of h35 n35
      have s := s34.trans s35
      have D := D.same s
      have hG := Same.tup s hG
      have hA1 := Same.tup s hA1
      have r1 := repAll_stays (Stays.of s) _ _ r1
      have eL := s _ _ e33
      have R := rpA s R (.tup (.inl (.inl e35)) (repAll_stays (Stays.of s35) _ _ rws))
      have O := okA O (okT_lists x1)
      clear h35 s34 s35 e34 e35 rws
      -- (group[:1], group)
      refine ⟨.ref g, rfl, 1, rfl, g, _, rfl, hG, fun f3 H36 s36 h36 => ?_⟩
      rw [cut_upto (by decide), ← List.map_take] at h36
      refine ⟨.ref g, rfl, sz 2 (by decide), fun f4 n37 => ?_⟩
      generalize h37 : upd H36 f4 _ = H37
      obtain ⟨s37, e37⟩ := new_of h37 n37
      have s := s36.trans s37
      have D := D.same s
      have hG := Same.tup s hG
      have hA1 := Same.tup s hA1
      have r1 := repAll_stays (Stays.of s) _ _ r1
      have eL := s _ _ eL
      have w1 := wt_tx6 (grp := grp.take 1) (fun x hx => nm x (List.mem_of_mem_take hx)) (by rw [List.length_take]; omega)
      have R := rpA (d := .tuple ([txD (grp.take 1)] ++ [txD grp])) s R (.tup (.inl (.inl e37)) (.cons (rep_tx (Same.tup s37 h36)) (.cons (rep_tx hG) .nil)))
      have O := okA O (okT_sn (l := [txD (grp.take 1)]) (y := txD grp) (fun d hd => by rw [List.mem_singleton.mp hd]; exact nz_tx fun x hx => nm x (List.mem_of_mem_take hx)) (by rw [wtAll_one]; omega) (fun d hd => by rw [List.mem_singleton.mp hd]; have := tx_depth (grp.take 1); omega) gn (by omega) (by omega))
      have R := rpA (Same.refl _) R (v := .non) (d := .none) .non
      have O := okA O (x := .none) (okT_small (by decide +kernel) (by decide +kernel) (by decide +kernel))
      clear h37 s36 s37 e37 h36
      -- (), 5, '', (None, None)
      refine ⟨sz 0 (by decide), fun f5 n38 => ?_⟩
      generalize h38 : upd H37 f5 _ = H38
      obtain ⟨s38, e38⟩ := new_of h38 n38
      have R := rpA s38 R (.tup (.inl (.inl e38)) .nil)
      have O := okA O (x := .tuple []) (okT_small (by decide +kernel) (by decide +kernel) (by decide +kernel))
      have R := rpA (Same.refl _) R (.int 5)
      have O := okA O (x := .int 5) (okT_small (by decide +kernel) (by decide +kernel) (by decide +kernel))
      have R := rpA (Same.refl _) R (.str "")
      have O := okA O (x := .str "") (okT_small (by decide +kernel) (by decide +kernel) (by decide +kernel))
      refine ⟨sz 2 (by decide), fun f6 n39 => ?_⟩
      generalize h39 : upd H38 f6 _ = H39
      obtain ⟨s39, e39⟩ := new_of h39 n39
      have R := rpA s39 R (.tup (.inl (.inl e39)) (.cons .non (.cons .non .nil)))
      have O := okA O (x := .tuple [.none, .none]) (okT_small (by decide +kernel) (by decide +kernel) (by decide +kernel))
      refine ⟨sz 7 (by decide), fun M2 nM2 => ?_⟩
      dsimp only
      generalize h40 : upd H39 M2 _ = H40
      obtain ⟨s40, e40⟩ := new_of h40 nM2
      have eL := ((s38.trans s39).trans s40) _ _ eL
      refine ⟨L2, M2, _, _, rfl, rfl, eL, e40, sz1000 (by simp only [List.length_cons, List.length_nil]; omega), fun L3 nL3 => ?_⟩
      have nbL3 := (D.same ((s38.trans s39).trans s40)).fresh nL3
      generalize h41 : upd H40 L3 _ = H41
      obtain ⟨s41, e41⟩ := new_of h41 nL3
      have s := ((s38.trans s39).trans s40).trans s41
      have D := D.same s
      have hG := Same.tup s hG
      have hA1 := Same.tup s hA1
      have r1 := repAll_stays (Stays.of s) _ _ r1
      have R := repAll_stays (Stays.of (s40.trans s41)) _ _ R
      rw [show ((((((VS ++ [V.ref f2]) ++ [V.ref f4]) ++ [V.non]) ++ [V.ref f5]) ++ [V.int 5]) ++ [V.str ""]) ++ [V.ref f6] = VS ++ [.ref f2, .ref f4, .non, .ref f5, .int 5, .str "", .ref f6] by simp] at R
      have lVS : (VS ++ [V.ref f2, .ref f4, .non, .ref f5, .int 5, .str "", .ref f6]).length = 21 := by rw [List.length_append, lVS]; rfl
      have e41 : H41 L3 = some (.lst (VS ++ [.ref f2, .ref f4, .non, .ref f5, .int 5, .str "", .ref f6])) := e41
      generalize VS ++ [V.ref f2, .ref f4, .non, .ref f5, .int 5, .str "", .ref f6] = VS at R e41 lVS
      obtain ⟨DS, R, O⟩ : ∃ DS, RepAll K H41 (Bd3 d c e) VS DS ∧ ∀ x ∈ DS, okT x := ⟨_, R, O⟩
      clear h38 h39 h40 h41 s38 s39 s40 s41 e38 e39 e40 eL
      -- spoilt ones
      refine ⟨.ref L3, rfl, 6, rfl, by decide, by decide, fun DD nDD => ?_⟩
      have bDD := D.fresh nDD
      refine lc_range (lo := 0) (n := 6) (fun k H' => Kept d e H41 H' ∧ ∃ (t' : Int) (us : List V) (es : List PyData), Drw H' d c e t' ∧ t' ≤ t7 + 6 * k ∧ H' DD = some (.lst us) ∧ us.length = k ∧ RepAll K H' (fun a => Bd3 d c e a ∨ a = DD) us es ∧ ∀ x ∈ es, okT x) ⟨Kept.of (same_upd nDD), t7, [], [], D.same (same_upd nDD), by omega, upd_same, rfl, .nil, fun x hx => (nomatch hx)⟩ (fun k H' hk hP => ?_) (fun H43 hP => ?_)
      · obtain ⟨k', t', us, es, D', ht', eD, lu, rs, os⟩ := hP
        have hA' := D.tup k' hA1
        have dU' := dpAll_tk (D.tk k') _ _ (noL_txs _) (rep_txs r1)
        refine ⟨rfl, .ref d, rfl, .ref a1, rfl, d, c, e, t', .ref a1, .tuple (P1.map txD), 10 ^ 29, 537, fun a => Bd3 d c e a ∨ a = DD, rfl, D', by omega, fun a h => .inl h, fun a h => ?_, .tup hA' (repAll_noL _ _ (noL_txs _) dU'), thg_tuple x1.n (by omega) x1.k, Nat.le_refl _, by decide, by decide, fun H44 v' x' t44 k44 D44 ht44 rx tx => ?_⟩
        · rcases h with h | h
          · exact D'.some h
          · rw [h, eD]
            exact fun z => nomatch z
        have eD2 := Drw.lst (c := c) k44 bDD eD
        have stm := stays_mut (bad := fun a => Bd3 d c e a ∨ a = DD) (ys := us ++ [v']) eD2 (.inr rfl)
        refine ⟨us, eD2, small1000 (by omega), (k'.trans k44).mut nDD, t44, us ++ [v'], es ++ [x'], D44.mut bDD, by omega, upd_same, by rw [List.length_append, lu]; rfl, ?_, okA os (tx.mono (Nat.le_refl _) (by decide) (by decide))⟩
        exact repAll_append (repAll_stays ((Stays.drw D' k44 (.inl (.inl rfl)) (.inl (.inr (.inr rfl)))).trans stm) _ _ rs) (.cons (rep_stays stm _ _ rx) .nil)
      obtain ⟨k43, t43, us, es, D43, ht43, eD43, lu, rs, os⟩ := hP
      have ht43 : t43 ≤ t7 + 6 * 6 := ht43
      have eL43 := Drw.lst (c := c) k43 nbL3 e41
      refine ⟨L3, DD, _, _, rfl, rfl, eL43, eD43, sz1000 (by rw [lVS, lu]; decide), fun N nN => ?_⟩
      have R43 := repAll_append (repAll_nb (repAll_stays (Stays.drw D k43 (.inl rfl) (.inr (.inr rfl))) _ _ R)) (repAll_nb rs)
      have O43 : ∀ x ∈ DS ++ es, okT x := fun x hx => (List.mem_append.mp hx).elim (O x) (os x)
      generalize VS ++ us = vA at R43
      generalize DS ++ es = xA at R43 O43
      generalize h44 : upd H43 N _ = H44
      obtain ⟨s44, e44⟩ := new_of h44 nN
      have D44 := D43.same s44
      have r44 := repAll_stays (Stays.of s44) _ _ R43
      have hG44 := Same.tup s44 (D.tup k43 hG)
      refine ⟨.ref N, rfl, N, rfl, ⟨_, .inl (.inl e44)⟩, for_it (walk_list (K := K) (a := N) (xs := vA)) (fun j σ H' => Same H44 H' ∧ ∃ (y10 y11 y12 : Option V), σ = [some (.ref a), some (.ref d), some (.int (0 + (i : Int))), some (.ref g), some (.ref a1), some (.ref a2), some (.ref N), none, none, none, y10, y11, y12]) ⟨Same.refl _, _, _, _, rfl⟩ (fun j σ H' _ hW => .inl (.inl (hW.1 _ _ e44))) (fun j v σ H46 H45 hj hW hY => ?_) (fun σ H45 hW => ?_)⟩
      · obtain ⟨rfl, hv⟩ := hY
        obtain ⟨s45, y10, y11, y12, rfl⟩ := hW
        obtain ⟨x, _, mx, rx⟩ := repAll_get r44 hv
        have ox := O43 x mx
        have fit : FitS x := (ox.fit (by decide)).mono (Nat.le_refl _) (Nat.le_refl _) |>.fit (by decide) (by decide)
        have rx := rep_stays (Stays.of s45) _ _ rx
        have hG45 := Same.tup s45 hG44
        refine ⟨v, rfl, v, x, rfl, rx, fit, ?_⟩
        generalize hsh : PyData.shown _ = shn
        refine ⟨.ref g, rfl, v, rfl, g, v, grp, x, NB, 10 ^ 29 + 1, rfl, hG45, nm, rx, ox, fun H47 s47 => ?_⟩
        generalize hq : partingB grp x = due
        refine ⟨.bl due, rfl, .bl due, .ty "bool", _, _, _, rfl, .ty "bool", kd_bl due, kit_bool _, _, rfl, iteF ?_⟩
        refine ⟨.bl due, rfl, .ref g, rfl, v, rfl, g, v, grp, x, NB, 10 ^ 29 + 1, rfl, Same.tup s47 hG45, nm, rep_stays (Stays.of s47) _ _ rx, ox, fun H48 s48 => ⟨rfl, _, rfl, ?_⟩⟩
        rw [← parting_due, hq, show (!decide (V.bl due = V.bl due)) = false by simp]
        have sB := s47.trans s48
        refine iteF ⟨v, rfl, v, x, rfl, rep_stays (Stays.of sB) _ _ rx, fit, ?_⟩
        rw [hsh]
        refine ⟨.str shn, rfl, rfl, _, rfl, iteNS rfl ?_⟩
        exact ⟨s45.trans sB, _, _, _, rfl⟩
      · obtain ⟨s45, y10, y11, y12, rfl⟩ := hW
        exact ⟨t43, D44.same s45, by omega, _, _, _, _, _, _, _, _, rfl⟩
    · exact q _
end
end OC

set_option Elab.async false
set_option linter.all false
set_option maxRecDepth 100000
namespace OC
open PySem PySem.Spec PyProof.Rows L2
/-! ### the end -/
set_option maxHeartbeats 8000000 in
theorem all_mk {l : PySem.W.OpenLaw} {w : World} {K : PySem.W.Frag} {h : Heap} {mg : Str → Option Value} {fa : Addr} (X : K.In h) (G : h.Ns mainGlobals mg) (hfa : mg "law" = some (.ref fa))
    {f0 : Addr} {od0 an0 : Option Addr} {sl0 : Array (Option Value)} {oc0 kV0 dc0 pm0 cd0 ct0 : Value}
    (a0 : PySem.W.nsIn K mainGlobals "is_rising" = some (some (.ref f0))) (l0 : K.lookup f0 = some ⟨oc0, od0, .func (PySem.W.fnOf "is_rising" "is_rising" (defArgs s_is_rising) (defBody s_is_rising) (defScope s_is_rising) .none kV0 dc0 pm0 an0 cd0 ct0), sl0⟩) (c0 : PySem.W.codeIn K cd0 "is_rising" = true) (k0 : PySem.W.keepIn K (.ref f0) = true)
    {f1 : Addr} {od1 an1 : Option Addr} {sl1 : Array (Option Value)} {oc1 kV1 dc1 pm1 cd1 ct1 : Value}
    (a1 : PySem.W.nsIn K mainGlobals "is_parting" = some (some (.ref f1))) (l1 : K.lookup f1 = some ⟨oc1, od1, .func (PySem.W.fnOf "is_parting" "is_parting" (defArgs s_is_parting) (defBody s_is_parting) (defScope s_is_parting) .none kV1 dc1 pm1 an1 cd1 ct1), sl1⟩) (c1 : PySem.W.codeIn K cd1 "is_parting" = true) (k1 : PySem.W.keepIn K (.ref f1) = true)
    {f2 : Addr} {od2 an2 : Option Addr} {sl2 : Array (Option Value)} {oc2 kV2 dc2 pm2 cd2 ct2 : Value}
    (a2 : PySem.W.nsIn K mainGlobals "is_part" = some (some (.ref f2))) (l2 : K.lookup f2 = some ⟨oc2, od2, .func (PySem.W.fnOf "is_part" "is_part" (defArgs s_is_part) (defBody s_is_part) (defScope s_is_part) .none kV2 dc2 pm2 an2 cd2 ct2), sl2⟩) (c2 : PySem.W.codeIn K cd2 "is_part" = true) (k2 : PySem.W.keepIn K (.ref f2) = true)
    {f3 : Addr} {od3 an3 : Option Addr} {sl3 : Array (Option Value)} {oc3 kV3 dc3 pm3 cd3 ct3 : Value}
    (a3 : PySem.W.nsIn K mainGlobals "names_in" = some (some (.ref f3))) (l3 : K.lookup f3 = some ⟨oc3, od3, .func (PySem.W.fnOf "names_in" "names_in" (defArgs s_names_in) (defBody s_names_in) (defScope s_names_in) .none kV3 dc3 pm3 an3 cd3 ct3), sl3⟩) (c3 : PySem.W.codeIn K cd3 "names_in" = true) (k3 : PySem.W.keepIn K (.ref f3) = true)
    {f4 : Addr} {od4 an4 : Option Addr} {sl4 : Array (Option Value)} {oc4 kV4 dc4 pm4 cd4 ct4 : Value}
    (a4 : PySem.W.nsIn K mainGlobals "_law_draws" = some (some (.ref f4))) (l4 : K.lookup f4 = some ⟨oc4, od4, .func (PySem.W.fnOf "_law_draws" "_law_draws" (defArgs s__law_draws) (defBody s__law_draws) (defScope s__law_draws) .none kV4 dc4 pm4 an4 cd4 ct4), sl4⟩) (c4 : PySem.W.codeIn K cd4 "_law_draws" = true) (k4 : PySem.W.keepIn K (.ref f4) = true)
    {f5 : Addr} {od5 an5 : Option Addr} {sl5 : Array (Option Value)} {oc5 kV5 dc5 pm5 cd5 ct5 : Value}
    (a5 : PySem.W.nsIn K mainGlobals "_law_next" = some (some (.ref f5))) (l5 : K.lookup f5 = some ⟨oc5, od5, .func (PySem.W.fnOf "_law_next" "_law_next" (defArgs s__law_next) (defBody s__law_next) (defScope s__law_next) .none kV5 dc5 pm5 an5 cd5 ct5), sl5⟩) (c5 : PySem.W.codeIn K cd5 "_law_next" = true) (k5 : PySem.W.keepIn K (.ref f5) = true)
    {f6 : Addr} {od6 an6 : Option Addr} {sl6 : Array (Option Value)} {oc6 kV6 dc6 pm6 cd6 ct6 : Value}
    (a6 : PySem.W.nsIn K mainGlobals "_law_one" = some (some (.ref f6))) (l6 : K.lookup f6 = some ⟨oc6, od6, .func (PySem.W.fnOf "_law_one" "_law_one" (defArgs s__law_one) (defBody s__law_one) (defScope s__law_one) .none kV6 dc6 pm6 an6 cd6 ct6), sl6⟩) (c6 : PySem.W.codeIn K cd6 "_law_one" = true) (k6 : PySem.W.keepIn K (.ref f6) = true)
    {f7 : Addr} {od7 an7 : Option Addr} {sl7 : Array (Option Value)} {oc7 kV7 dc7 pm7 cd7 ct7 : Value}
    (a7 : PySem.W.nsIn K mainGlobals "_law_names" = some (some (.ref f7))) (l7 : K.lookup f7 = some ⟨oc7, od7, .func (PySem.W.fnOf "_law_names" "_law_names" (defArgs s__law_names) (defBody s__law_names) (defScope s__law_names) .none kV7 dc7 pm7 an7 cd7 ct7), sl7⟩) (c7 : PySem.W.codeIn K cd7 "_law_names" = true) (k7 : PySem.W.keepIn K (.ref f7) = true)
    {f8 : Addr} {od8 an8 : Option Addr} {sl8 : Array (Option Value)} {oc8 kV8 dc8 pm8 cd8 ct8 : Value}
    (a8 : PySem.W.nsIn K mainGlobals "_law_spoilt" = some (some (.ref f8))) (l8 : K.lookup f8 = some ⟨oc8, od8, .func (PySem.W.fnOf "_law_spoilt" "_law_spoilt" (defArgs s__law_spoilt) (defBody s__law_spoilt) (defScope s__law_spoilt) .none kV8 dc8 pm8 an8 cd8 ct8), sl8⟩) (c8 : PySem.W.codeIn K cd8 "_law_spoilt" = true) (k8 : PySem.W.keepIn K (.ref f8) = true)
    {f9 : Addr} {od9 an9 : Option Addr} {sl9 : Array (Option Value)} {oc9 kV9 dc9 pm9 cd9 ct9 : Value}
    (a9 : PySem.W.nsIn K mainGlobals "_law_drawn" = some (some (.ref f9))) (l9 : K.lookup f9 = some ⟨oc9, od9, .func (PySem.W.fnOf "_law_drawn" "_law_drawn" (defArgs s__law_drawn) (defBody s__law_drawn) (defScope s__law_drawn) .none kV9 dc9 pm9 an9 cd9 ct9), sl9⟩) (c9 : PySem.W.codeIn K cd9 "_law_drawn" = true) (k9 : PySem.W.keepIn K (.ref f9) = true)
    {f10 : Addr} {od10 an10 : Option Addr} {sl10 : Array (Option Value)} {oc10 kV10 dc10 pm10 cd10 ct10 : Value}
    (a10 : PySem.W.nsIn K mainGlobals "_law_due" = some (some (.ref f10))) (l10 : K.lookup f10 = some ⟨oc10, od10, .func (PySem.W.fnOf "_law_due" "_law_due" (defArgs s__law_due) (defBody s__law_due) (defScope s__law_due) .none kV10 dc10 pm10 an10 cd10 ct10), sl10⟩) (c10 : PySem.W.codeIn K cd10 "_law_due" = true) (k10 : PySem.W.keepIn K (.ref f10) = true)
    {f11 : Addr} {od11 an11 : Option Addr} {sl11 : Array (Option Value)} {oc11 kV11 dc11 pm11 cd11 ct11 : Value}
    (a11 : PySem.W.nsIn K mainGlobals "law" = some (some (.ref f11))) (l11 : K.lookup f11 = some ⟨oc11, od11, .func (PySem.W.fnOf "law" "law" (defArgs s_law) (defBody s_law) (defScope s_law) .none kV11 dc11 pm11 an11 cd11 ct11), sl11⟩) (c11 : PySem.W.codeIn K cd11 "law" = true) (k11 : PySem.W.keepIn K (.ref f11) = true)
    (z_all : PySem.W.nsIn K mainGlobals "all" = some none)
    (z_bool : PySem.W.nsIn K mainGlobals "bool" = some none)
    (z_int : PySem.W.nsIn K mainGlobals "int" = some none)
    (z_isinstance : PySem.W.nsIn K mainGlobals "isinstance" = some none)
    (z_len : PySem.W.nsIn K mainGlobals "len" = some none)
    (z_list : PySem.W.nsIn K mainGlobals "list" = some none)
    (z_range : PySem.W.nsIn K mainGlobals "range" = some none)
    (z_repr : PySem.W.nsIn K mainGlobals "repr" = some none)
    (z_sorted : PySem.W.nsIn K mainGlobals "sorted" = some none)
    (z_str : PySem.W.nsIn K mainGlobals "str" = some none)
    (z_tuple : PySem.W.nsIn K mainGlobals "tuple" = some none)
    (z_zip : PySem.W.nsIn K mainGlobals "zip" = some none)
    : ∃ fd : FuncData, (∀ (s : Shared) (v : Value), BindsTo s fd ⟨[v], []⟩ [("_law_script", v)]) ∧ ∀ base : Heap, K.In base → base.Ns mainGlobals mg → HasSys base → FnG l.prog w K mg base CX0 6 fa fd ["_law_script"] (sp_law K) := by
  have e := hfa.symm.trans (PySem.W.mg_of X G a11)
  cases e
  have T : Top K mg := {
    b_all := PySem.W.mg_none_of X G z_all,
    b_bool := PySem.W.mg_none_of X G z_bool,
    b_int := PySem.W.mg_none_of X G z_int,
    b_isinstance := PySem.W.mg_none_of X G z_isinstance,
    b_len := PySem.W.mg_none_of X G z_len,
    b_list := PySem.W.mg_none_of X G z_list,
    b_range := PySem.W.mg_none_of X G z_range,
    b_repr := PySem.W.mg_none_of X G z_repr,
    b_sorted := PySem.W.mg_none_of X G z_sorted,
    b_str := PySem.W.mg_none_of X G z_str,
    b_tuple := PySem.W.mg_none_of X G z_tuple,
    b_zip := PySem.W.mg_none_of X G z_zip,
    d_is_rising := df_of X G a0 l0 c0 k0 (fun _ _ _ _ _ _ us hl => match us, hl with | [_], _ => rfl),
    d_is_parting := df_of X G a1 l1 c1 k1 (fun _ _ _ _ _ _ us hl => match us, hl with | [_, _], _ => rfl),
    d_is_part := df_of X G a2 l2 c2 k2 (fun _ _ _ _ _ _ us hl => match us, hl with | [_, _], _ => rfl),
    d_names_in := df_of X G a3 l3 c3 k3 (fun _ _ _ _ _ _ us hl => match us, hl with | [_], _ => rfl),
    d__law_draws := df_of X G a4 l4 c4 k4 (fun _ _ _ _ _ _ us hl => match us, hl with | [_], _ => rfl),
    d__law_next := df_of X G a5 l5 c5 k5 (fun _ _ _ _ _ _ us hl => match us, hl with | [_, _], _ => rfl),
    d__law_one := df_of X G a6 l6 c6 k6 (fun _ _ _ _ _ _ us hl => match us, hl with | [_, _], _ => rfl),
    d__law_names := df_of X G a7 l7 c7 k7 (fun _ _ _ _ _ _ us hl => match us, hl with | [_, _], _ => rfl),
    d__law_spoilt := df_of X G a8 l8 c8 k8 (fun _ _ _ _ _ _ us hl => match us, hl with | [_, _], _ => rfl),
    d__law_drawn := df_of X G a9 l9 c9 k9 (fun _ _ _ _ _ _ us hl => match us, hl with | [_, _], _ => rfl),
    d__law_due := df_of X G a10 l10 c10 k10 (fun _ _ _ _ _ _ us hl => match us, hl with | [_, _], _ => rfl) }
  have F := fun_mk (st := s_law) l11 c11 k11
  exact ⟨PySem.W.fnOf "law" "law" (defArgs s_law) (defBody s_law) (defScope s_law) .none kV11 dc11 pm11 an11 cd11 ct11, fun s v => .of_eq rfl, fun base _ _ hs => ok_law T hs F⟩
end OC
open PySem PySem.W PyProof.Rows
set_option Elab.async false
set_option maxRecDepth 100000 in
set_option maxHeartbeats 0 in
theorem PySem.Challenge.cw_opencalls_k35_partings_or_not_holds : PySem.Challenge.rw_opencalls_k35_partings_or_not.Holds := by
  w_on; o_law; k_head; (case hw => w_witness2)
  k_fill
  refine OC.walk_ofS (l := PySem.Challenge.rw_opencalls_k35_partings_or_not) (n := 63) (k := 6) (x := "_law_script") (CX := fun _ => L2.CX0) (sp := fun w => OC.sp_law _) rfl (by decide) rfl ⟨rfl, by decide, by decide⟩ (by decide +kernel) (fun w h Y => PySem.W.kIn_of Y) ?F (fun _ _ a ns hl _ hS => ⟨a, ns, rfl, hS, hl, fun _ => rfl⟩) (fun _ _ _ _ _ h => h)
  case F =>
    intro w mg fa h KX G hmg
    refine' OC.all_mk KX G hmg ?a0 ?l0 ?c0 ?k0 ?a1 ?l1 ?c1 ?k1 ?a2 ?l2 ?c2 ?k2 ?a3 ?l3 ?c3 ?k3 ?a4 ?l4 ?c4 ?k4 ?a5 ?l5 ?c5 ?k5 ?a6 ?l6 ?c6 ?k6 ?a7 ?l7 ?c7 ?k7 ?a8 ?l8 ?c8 ?k8 ?a9 ?l9 ?c9 ?k9 ?a10 ?l10 ?c10 ?k10 ?a11 ?l11 ?c11 ?k11 ?z_all ?z_bool ?z_int ?z_isinstance ?z_len ?z_list ?z_range ?z_repr ?z_sorted ?z_str ?z_tuple ?z_zip
    (case a0 => k_is); (case l0 => k_is); (case c0 => k_is); (case k0 => k_is); (case a1 => k_is); (case l1 => k_is); (case c1 => k_is); (case k1 => k_is); (case a2 => k_is); (case l2 => k_is); (case c2 => k_is); (case k2 => k_is); (case a3 => k_is); (case l3 => k_is); (case c3 => k_is); (case k3 => k_is); (case a4 => k_is); (case l4 => k_is); (case c4 => k_is); (case k4 => k_is); (case a5 => k_is); (case l5 => k_is); (case c5 => k_is); (case k5 => k_is); (case a6 => k_is); (case l6 => k_is); (case c6 => k_is); (case k6 => k_is); (case a7 => k_is); (case l7 => k_is); (case c7 => k_is); (case k7 => k_is); (case a8 => k_is); (case l8 => k_is); (case c8 => k_is); (case k8 => k_is); (case a9 => k_is); (case l9 => k_is); (case c9 => k_is); (case k9 => k_is); (case a10 => k_is); (case l10 => k_is); (case c10 => k_is); (case k10 => k_is); (case a11 => k_is); (case l11 => k_is); (case c11 => k_is); (case k11 => k_is); (case z_all => k_is); (case z_bool => k_is); (case z_int => k_is); (case z_isinstance => k_is); (case z_len => k_is); (case z_list => k_is); (case z_range => k_is); (case z_repr => k_is); (case z_sorted => k_is); (case z_str => k_is); (case z_tuple => k_is); (case z_zip => k_is)
